package tests

import (
	"reflect"
	"testing"
	"unsafe"

	"loop.example/wharfsteward/impl"
)

func copyWorld(w impl.StewWorld) impl.StewWorld {
	var past []impl.StewBook
	for _, b := range w.Past {
		past = append(past, copyBook(b))
	}
	return impl.StewWorld{Past: past, Book: copyBook(w.Book)}
}

func sameWorld(w, x impl.StewWorld) bool {
	return reflect.DeepEqual(copyWorld(w), copyWorld(x))
}

// lent is a world whose lists have spare room, filled with marks; past shows the list of past books to the end of that
// room, and books show theirs.
type lent struct {
	world impl.StewWorld
	past  []impl.StewBook
	books []impl.StewBook
}

func lend(w impl.StewWorld) lent {
	var l lent
	for _, b := range w.Past {
		short, whole := roomy(b)
		l.past = append(l.past, short)
		l.books = append(l.books, whole)
	}
	short, whole := roomy(w.Book)
	l.books = append(l.books, whole)
	l.past = append(l.past, impl.StewBook{Now: -1}, impl.StewBook{Now: -2})
	l.world = impl.StewWorld{Past: l.past[:len(w.Past)], Book: short}
	return l
}

func (l lent) copy() lent {
	c := lent{world: copyWorld(l.world)}
	for _, b := range l.past {
		c.past = append(c.past, copyBook(b))
	}
	for _, b := range l.books {
		c.books = append(c.books, copyBook(b))
	}
	return c
}

// span is the memory of a list, spare room included.
type span struct {
	from, to uintptr
}

func spanOf[T any](list []T) span {
	var x T
	from := uintptr(unsafe.Pointer(unsafe.SliceData(list)))
	return span{from, from + uintptr(cap(list))*unsafe.Sizeof(x)}
}

func (s span) meets(u span) bool {
	return s.from != s.to && u.from != u.to && s.from < u.to && u.from < s.to
}

// spansOf are the lists of a world, and those of all its books.
func spansOf(w impl.StewWorld) []span {
	spans := []span{spanOf(w.Past)}
	for _, b := range append(w.Past[:len(w.Past):len(w.Past)], w.Book) {
		spans = append(spans, spanOf(b.Services), spanOf(b.Copies), spanOf(b.Berths))
	}
	return spans
}

// checkApart fails if a list of the answer shares memory with another, or with one that was given.
func checkApart(t *testing.T, title string, answer, given []span) {
	t.Helper()
	for i, s := range answer {
		for _, u := range answer[:i] {
			if s.meets(u) {
				t.Errorf("%s: two lists of the answer share memory", title)
			}
		}
		for _, u := range given {
			if s.meets(u) {
				t.Errorf("%s: the answer shares memory with an argument", title)
			}
		}
	}
}

// did calls StewDo, and fails if an argument is changed or memory is shared.
func did(t *testing.T, title string, w impl.StewWorld, m impl.StewMove) (impl.StewWorld, []int) {
	t.Helper()
	l := lend(w)
	was, move := l.copy(), m
	got, codes := impl.StewDo(l.world, m)
	if !reflect.DeepEqual(l.copy(), was) || m != move {
		t.Errorf("%s: an argument is changed", title)
	}
	checkApart(t, title, append(spansOf(got), spanOf(codes)), spansOf(l.world))
	return got, codes
}

// checkDo holds a move against the model, and the codes against want.
func checkDo(t *testing.T, title string, w impl.StewWorld, m impl.StewMove, want []int) impl.StewWorld {
	t.Helper()
	got, codes := did(t, title, w, m)
	if !sameList(codes, want) {
		t.Errorf("%s: codes %v, want %v", title, codes, want)
	}
	if after, _ := modelDo(w, m); !sameWorld(got, after) {
		t.Errorf("%s: the world is\n%+v, want\n%+v", title, got, after)
	}
	return got
}

// sameList: the empty and the nil list are the same.
func sameList(a, b []int) bool {
	return len(a) == 0 && len(b) == 0 || reflect.DeepEqual(a, b)
}

// calmed calls StewCalm, and fails if an argument is changed or memory is shared.
func calmed(t *testing.T, title string, w impl.StewWorld, rounds int, order []int) impl.StewWorld {
	t.Helper()
	l := lend(w)
	whole := append(append([]int(nil), order...), 4, 4)
	wasWorld, wasOrder := l.copy(), append([]int(nil), whole...)
	got := impl.StewCalm(l.world, rounds, whole[:len(order)])
	if !reflect.DeepEqual(l.copy(), wasWorld) || !reflect.DeepEqual(whole, wasOrder) {
		t.Errorf("%s: an argument is changed", title)
	}
	checkApart(t, title, spansOf(got), append(spansOf(l.world), spanOf(whole)))
	return got
}

// checkCalm holds rounds against want.
func checkCalm(t *testing.T, title string, w impl.StewWorld, rounds int, order []int, want impl.StewWorld) impl.StewWorld {
	t.Helper()
	got := calmed(t, title, w, rounds, order)
	if !sameWorld(got, want) {
		t.Errorf("%s: the world is\n%+v, want\n%+v", title, got, want)
	}
	return got
}

// lookedBack is a world of books that are b with these Nows, the last of them the Book.
func lookedBack(b impl.StewBook, nows ...int) impl.StewWorld {
	var books []impl.StewBook
	for _, now := range nows {
		books = append(books, withNow(copyBook(b), now))
	}
	last := len(books) - 1
	return impl.StewWorld{Past: books[:last], Book: books[last]}
}

// spoiltWorlds are not ok.
func spoiltWorlds() map[string]impl.StewWorld {
	worlds := map[string]impl.StewWorld{
		"nine past":           lookedBack(port(), 100, 101, 102, 103, 104, 105, 106, 107, 108, 109),
		"nine past, all same": lookedBack(port(), 100, 100, 100, 100, 100, 100, 100, 100, 100, 100),
		"a book below 0":      lookedBack(port(), -1),
		"a book too late":     lookedBack(port(), impl.StewMaxNumber+1),
		"past above the book": lookedBack(port(), 101, 100),
		"falling at first":    lookedBack(port(), 101, 100, 102, 103),
		"falling in between":  lookedBack(port(), 100, 102, 101, 103),
		"falling at last":     lookedBack(port(), 100, 101, 103, 102),
		"all above the book":  lookedBack(port(), 101, 102, 103, 100),
		"far too many past":   {Past: make([]impl.StewBook, 1000)},
	}
	for at, place := range []string{"the first past", "the second past", "the last past"} {
		w := lookedBack(port(), 100, 101, 102, 103)
		w.Past[at].Services[0].Image = 0
		worlds[place+" is not valid"] = w
	}
	w := lookedBack(port(), 100, 101)
	w.Book.Copies[0].Berth = "nowhere"
	worlds["the book is not valid"] = w
	w = lookedBack(port(), 100)
	w.Book.Services[portWeb].Next = 0
	worlds["the book is not valid, without past"] = w
	return worlds
}
