package tests

import (
	"fmt"
	"math"
	"math/rand"
	"reflect"
	"runtime"
	"strconv"
	"testing"
	"time"

	"loop.example/wharfsteward/impl"
)

func checkOk(t *testing.T, title string, w impl.StewWorld, want bool) {
	t.Helper()
	l := lend(w)
	was := l.copy()
	if got := impl.StewWorldOk(l.world); got != want {
		t.Errorf("%s: %v, want %v", title, got, want)
	}
	if !reflect.DeepEqual(l.copy(), was) {
		t.Errorf("%s: the world is changed", title)
	}
}

func TestWorldsThatAreOk(t *testing.T) {
	checkOk(t, "nothing", impl.StewWorld{}, true)
	checkOk(t, "empty lists", impl.StewWorld{Past: []impl.StewBook{}}, true)
	checkOk(t, "nothing, eight times", impl.StewWorld{Past: make([]impl.StewBook, 8)}, true)
	checkOk(t, "nothing, nine times", impl.StewWorld{Past: make([]impl.StewBook, 9)}, false)
	checkOk(t, "nothing behind us", impl.StewWorld{Past: make([]impl.StewBook, 3), Book: port()}, true)
	checkOk(t, "nothing ahead", impl.StewWorld{Past: []impl.StewBook{port()}}, false)
	for _, nows := range [][]int{{100}, {100, 100}, {100, 101}, {100, 101, 102}, {100, 900, 901, 5000}, {100, 100, 101, 101, 102}, {100, 102, 102},
		{100, 101, 102, 103, 104, 105, 106, 107, 108}, {100, 100, 100, 100, 100, 100, 100, 100, 100}, {100, impl.StewMaxNumber, impl.StewMaxNumber}} {
		checkOk(t, fmt.Sprint(nows), lookedBack(port(), nows...), true)
	}
}

func TestWorldsThatAreNotOk(t *testing.T) {
	for title, w := range spoiltWorlds() {
		checkOk(t, title, w, false)
	}
	for at := range impl.StewMaxPast + 1 {
		w := lookedBack(port(), 100, 101, 102, 103, 104, 105, 106, 107, 108)
		spoilt := &w.Book
		if at < impl.StewMaxPast {
			spoilt = &w.Past[at]
		}
		checkOk(t, "all valid", w, true)
		spoilt.Berths[0].Name = "A"
		checkOk(t, "not valid at "+strconv.Itoa(at), w, false)
	}
}

func TestWorldsAgainstTheModel(t *testing.T) {
	r := rand.New(rand.NewSource(80))
	told := map[bool]int{}
	for range 3000 {
		w := randomWorld(r)
		for range r.Intn(3) {
			books := append(append([]impl.StewBook(nil), w.Past...), w.Book)
			b := &books[r.Intn(len(books))]
			switch r.Intn(4) {
			case 0:
				b.Now = 55 + r.Intn(20)
			case 1:
				upset(r, b)
			case 2:
				books = append(books, *b)
			case 3:
				books = append(books, books...)
			}
			w = impl.StewWorld{Past: books[:len(books)-1], Book: books[len(books)-1]}
		}
		want := modelWorldOk(w)
		told[want]++
		checkOk(t, "drawn", w, want)
		if t.Failed() {
			t.Fatalf("%+v", w)
		}
	}
	if told[true] < 500 || told[false] < 500 {
		t.Errorf("told %v", told)
	}
}

func TestLimitsOfWorlds(t *testing.T) {
	if impl.StewMaxPast != 8 || impl.StewMaxCalm != 1000 {
		t.Errorf("limits: %d %d", impl.StewMaxPast, impl.StewMaxCalm)
	}
}

// needy is a book of so many services, of each of which the steward of this kind asks for something; each has the
// version that is told, or 1.
func needy(kind, services, now int, versions ...int) impl.StewBook {
	b := impl.StewBook{Now: now, Berths: []impl.StewBerth{{Name: "a"}, {Name: "z", Drain: true}}}
	for i := range services {
		s := impl.StewService{Name: "s" + strconv.Itoa(i), Version: 1, Gone: kind == impl.StewSweeper, Image: 2, Want: 1, Over: 1, Next: 2}
		c := impl.StewCopy{Service: s.Name, Number: 1, Version: 1, Image: 2, State: impl.StewReady, Berth: "a"}
		if i < len(versions) {
			s.Version = versions[i]
		}
		switch kind {
		case impl.StewWaver:
			c.Image = 1
		case impl.StewMender:
			c.State = impl.StewFailed
		case impl.StewScaler:
			s.Per, s.Most, s.Load = 10, 9, 35
		case impl.StewDrainer:
			c.Berth = "z"
		}
		if kind != impl.StewCounter && kind != impl.StewSweeper {
			b.Copies = append(b.Copies, c)
		}
		b.Services = append(b.Services, s)
	}
	return b
}

// eras is a world of which each book lets the steward of this kind ask for another number of acts: past ones, the
// first ahead, for 0 to 7, the Book for 8; of the past only the last are kept. Every second service had another version
// then.
func eras(kind, past int) impl.StewWorld {
	w := impl.StewWorld{Book: needy(kind, 8, 50)}
	for i := 8 - past; i < 8; i++ {
		w.Past = append(w.Past, needy(kind, i, 20+i, 1, 2, 1, 2, 1, 2, 1, 2))
	}
	return w
}

func TestWhichBookAStewardLooksAt(t *testing.T) {
	for kind := impl.StewCounter; kind <= impl.StewDrainer; kind++ {
		for past := range impl.StewMaxPast + 1 {
			for _, age := range []int{math.MinInt, -9, -1, 0, 1, 2, 3, 4, 5, 6, 7, 8, 9, 10, math.MaxInt} {
				title := fmt.Sprintf("steward %d at age %d of %d", kind, age, past)
				want := []int{0, 0, 0, 0, 0, 0, 0, 0}
				if age > 0 && past > 0 {
					want = []int{0, 4, 0, 4, 0, 4, 0}[:8-min(age, past)]
				}
				got := checkDo(t, title, eras(kind, past), impl.StewMove{Steward: kind, Age: age}, want)
				done := 0
				for _, code := range want {
					if code == 0 {
						done++
					}
				}
				if got.Book.Now != 50+done || len(got.Past) != min(past+done, 8) || !impl.StewWorldOk(got) {
					t.Errorf("%s: Now is %d behind %d past", title, got.Book.Now, len(got.Past))
				}
			}
		}
	}
}

// A steward of 1 to 6 does not heed the event, and none other the age.
func TestAMoveIsALookOrAnEvent(t *testing.T) {
	w := eras(impl.StewCounter, 8)
	for _, e := range []impl.StewEvent{{}, {Kind: impl.StewTick}, sunk("a"), {Kind: 99}} {
		checkDo(t, "a look", w, impl.StewMove{Steward: 1, Age: 2, Event: e}, []int{0, 4, 0, 4, 0, 4})
	}
	for _, age := range []int{-1, 0, 1, 8, 99} {
		got := checkDo(t, "an event", w, impl.StewMove{Age: age, Event: raised("c", false)}, []int{0})
		if len(got.Book.Services) != 8 || len(got.Book.Berths) != 3 {
			t.Errorf("an event at age %d: %+v", age, got.Book)
		}
	}
}

// gaugeBooks are a view of the counter and the book of today, and the codes of what it asks for.
func gaugeBooks() (impl.StewBook, impl.StewBook, []int) {
	view := impl.StewBook{Now: 10, Berths: []impl.StewBerth{{Name: "x"}}}
	for i := range 8 {
		name := string(rune('a' + i))
		view.Services = append(view.Services, impl.StewService{Name: name, Version: 1, Image: 1, Want: 1, Over: 1, Next: 3})
	}
	for _, name := range []string{"d", "e", "g"} { // these have one more than they are to have; 2 is the first to end
		for n := 1; n <= 2; n++ {
			view.Copies = append(view.Copies, impl.StewCopy{Service: name, Number: n, Version: 2, Image: 1, State: impl.StewReady, Berth: "x"})
		}
	}
	b := copyBook(view)
	b.Now = 20
	b.Services[2].Version = 15                                   // c: another version
	b.Copies[0].State, b.Copies[0].Version = impl.StewFailed, 11 // d: 1 has failed since
	b.Copies[3].Version = 12                                     // e: 2 has another version
	b.Services[5].Gone = true                                    // f: no more is to be created
	b.Copies = b.Copies[:5]                                      // g: 2 is no longer there
	b.Services = append(b.Services[:1:1], b.Services[2:]...)     // b: is no longer there
	return view, b, []int{0, 3, 4, 5, 4, 6, 3, 0}
}

func TestEachCodeIsToldInOrder(t *testing.T) {
	view, b, codes := gaugeBooks()
	w := impl.StewWorld{Past: []impl.StewBook{view}, Book: b}
	got := checkDo(t, "all codes", w, impl.StewMove{Steward: impl.StewCounter, Age: 1}, codes)
	if got.Book.Now != 22 || len(got.Past) != 3 || !sameBook(got.Past[0], view) || !sameBook(got.Past[1], b) || got.Past[2].Now != 21 {
		t.Errorf("all codes: %+v", got)
	}
	// one that is done in between, and none at all
	b.Services[0].Version, b.Services[6].Version = 14, 14
	got = checkDo(t, "none is done", w, impl.StewMove{Steward: impl.StewCounter, Age: 1}, []int{4, 3, 4, 5, 4, 6, 3, 4})
	if !sameWorld(got, w) {
		t.Errorf("none is done: %+v", got)
	}
	b.Copies[0].State = impl.StewReady
	checkDo(t, "one in between", w, impl.StewMove{Steward: impl.StewCounter, Age: 1}, []int{4, 3, 4, 0, 4, 6, 3, 4})
}

func TestNoRoomForAct(t *testing.T) {
	w := impl.StewWorld{Book: needy(impl.StewCounter, 4, impl.StewMaxNumber-2)}
	got := checkDo(t, "two versions left", w, impl.StewMove{Steward: impl.StewCounter}, []int{0, 0, 7, 7})
	if len(got.Past) != 2 || got.Book.Now != impl.StewMaxNumber {
		t.Errorf("two versions left: %+v", got)
	}
	got = checkDo(t, "none left", got, impl.StewMove{Steward: impl.StewCounter}, []int{7, 7})
	checkDo(t, "no tick either", got, impl.StewMove{Event: impl.StewEvent{Kind: impl.StewTick}}, []int{7})
	full := crowd(3, impl.StewMaxCopies-1, 1)
	full.Services[1].Want, full.Services[2].Want = 1, 1
	full.Copies[0].Ending = true
	full.Services[0].Want = impl.StewMaxWant
	checkDo(t, "one copy left", impl.StewWorld{Book: full}, impl.StewMove{Steward: impl.StewCounter}, []int{0, 0, 7})
}

// The past grows by each act that is done, up to its limit.
func TestHowThePastGrows(t *testing.T) {
	for kind := impl.StewCounter; kind <= impl.StewDrainer; kind++ {
		for past := range impl.StewMaxPast + 1 {
			for acts := range impl.StewMaxServices + 1 {
				title := fmt.Sprintf("steward %d, %d past, %d acts", kind, past, acts)
				w := eras(kind, past)
				w.Book = needy(kind, acts, 50)
				got := checkDo(t, title, w, impl.StewMove{Steward: kind}, make([]int, acts))
				row := append(append([]impl.StewBook(nil), w.Past...), w.Book)
				row = row[max(0, len(row)+acts-1-impl.StewMaxPast):]
				checkPast(t, title, got, row, acts)
			}
		}
	}
}

// checkPast fails unless the past begins with these books, of which the last is the one ahead of the acts, and goes on
// with those between the acts. (With no act, that last one is the Book.)
func checkPast(t *testing.T, title string, got impl.StewWorld, row []impl.StewBook, acts int) {
	t.Helper()
	all := append(append([]impl.StewBook(nil), got.Past...), got.Book)
	if len(all) != len(row)+acts {
		t.Errorf("%s: %d books, want %d and %d", title, len(all), len(row), acts)
		return
	}
	for i, b := range row {
		if !sameBook(all[i], b) {
			t.Errorf("%s: past %d is another", title, i)
		}
	}
	for i := len(row); i < len(all); i++ {
		if all[i].Now != all[i-1].Now+1 {
			t.Errorf("%s: Now %d behind %d", title, all[i].Now, all[i-1].Now)
		}
	}
}

func TestEventsInAWorld(t *testing.T) {
	past := []impl.StewBook{withNow(port(), 60), withNow(port(), 61), withNow(port(), 62), withNow(port(), 70), withNow(port(), 80),
		withNow(port(), 90), withNow(port(), 90), withNow(port(), 99)}
	events := wrongEvents()
	events[0] = goodEvents()
	events[4] = []impl.StewEvent{{}, {Kind: 7}, {Kind: -1, Name: "a"}, {Kind: math.MaxInt, Service: wish("web")}}
	for _, steward := range []int{0, 7, -1, 8, 100, math.MinInt, math.MaxInt} {
		for code, events := range events {
			for _, e := range events {
				for _, size := range []int{0, 1, 7, 8} {
					title := fmt.Sprintf("steward %d, event %d, code %d, %d past", steward, e.Kind, code, size)
					w := impl.StewWorld{Past: past[:size], Book: port()}
					got := checkDo(t, title, w, impl.StewMove{Steward: steward, Event: e}, []int{code})
					checkBehindEvent(t, title, w, got, code)
				}
			}
		}
	}
	for _, e := range goodEvents() {
		w := lookedBack(port(), 100, impl.StewMaxNumber)
		checkBehindEvent(t, "no version left", w, checkDo(t, "no version left", w, impl.StewMove{Event: e}, []int{7}), 7)
	}
}

func checkBehindEvent(t *testing.T, title string, w, got impl.StewWorld, code int) {
	t.Helper()
	if code != 0 {
		if !sameWorld(got, w) {
			t.Errorf("%s: the world is another", title)
		}
		return
	}
	last := len(got.Past) - 1
	if last+1 != min(len(w.Past)+1, impl.StewMaxPast) || !sameBook(got.Past[last], w.Book) || got.Book.Now != w.Book.Now+1 {
		t.Errorf("%s: %+v", title, got)
		return
	}
	kept := w.Past[len(w.Past)-last:]
	for i, b := range kept {
		if !sameBook(got.Past[i], b) {
			t.Errorf("%s: past %d is another", title, i)
		}
	}
}

func TestMovesInAWorldThatIsNotOk(t *testing.T) {
	for title, w := range spoiltWorlds() {
		for steward := -1; steward <= 7; steward++ {
			for _, age := range []int{-1, 0, 1, 9} {
				m := impl.StewMove{Steward: steward, Age: age, Event: impl.StewEvent{Kind: impl.StewTick}}
				got, codes := did(t, title, w, m)
				if !sameWorld(got, impl.StewWorld{}) || len(codes) != 0 {
					t.Errorf("%s: steward %d: %v, %+v", title, steward, codes, got)
				}
			}
		}
	}
}

func TestMovesInTheWorldWithNothing(t *testing.T) {
	for kind := impl.StewCounter; kind <= impl.StewDrainer; kind++ {
		for _, age := range []int{-1, 0, 1, 9} {
			checkDo(t, "nothing to see", impl.StewWorld{}, impl.StewMove{Steward: kind, Age: age}, nil)
		}
	}
	checkDo(t, "no event", impl.StewWorld{}, impl.StewMove{}, []int{4})
	got := checkDo(t, "a tick", impl.StewWorld{}, impl.StewMove{Event: impl.StewEvent{Kind: impl.StewTick}}, []int{0})
	if got.Book.Now != 1 || len(got.Past) != 1 || got.Past[0].Now != 0 {
		t.Errorf("a tick: %+v", got)
	}
}

// An old view is dated by the books that were put behind it, be they of acts or of events.
func TestAViewGrowsOld(t *testing.T) {
	w := impl.StewWorld{Book: impl.StewBook{Berths: []impl.StewBerth{{Name: "a"}}}}
	w = checkDo(t, "wish", w, impl.StewMove{Event: wished(impl.StewService{Name: "web", Image: 1, Want: 2, Down: 1})}, []int{0})
	w = checkDo(t, "raise", w, impl.StewMove{Event: raised("b", false)}, []int{0})
	checkDo(t, "ahead of the wish", w, impl.StewMove{Steward: impl.StewCounter, Age: 2}, nil)
	x := checkDo(t, "ahead of the raise", w, impl.StewMove{Steward: impl.StewCounter, Age: 1}, []int{0})
	checkDo(t, "the same view", x, impl.StewMove{Steward: impl.StewCounter, Age: 2}, []int{4})
	checkDo(t, "what was just done", x, impl.StewMove{Steward: impl.StewCounter, Age: 1}, []int{4})
	checkDo(t, "as it is", x, impl.StewMove{Steward: impl.StewCounter}, nil)
	for range 6 {
		x = checkDo(t, "a tick", x, impl.StewMove{Event: impl.StewEvent{Kind: impl.StewTick}}, []int{0})
	}
	checkDo(t, "eight books ago", x, impl.StewMove{Steward: impl.StewCounter, Age: 8}, []int{4})
	x = checkDo(t, "the ninth", x, impl.StewMove{Event: impl.StewEvent{Kind: impl.StewTick}}, []int{0})
	checkDo(t, "still eight books ago", x, impl.StewMove{Steward: impl.StewCounter, Age: 8}, []int{4})
	x = checkDo(t, "the tenth", x, impl.StewMove{Event: impl.StewEvent{Kind: impl.StewTick}}, []int{0})
	checkDo(t, "the want is met in all", x, impl.StewMove{Steward: impl.StewCounter, Age: 8}, nil)
}

func TestMovesAgainstTheModel(t *testing.T) {
	r := rand.New(rand.NewSource(8))
	told := map[int]int{}
	for i := range 4000 {
		w := randomWorld(r)
		if i%2 == 0 {
			w = voyage(r, r.Intn(30))
		}
		m := randomMove(r, w.Book)
		_, codes := modelDo(w, m)
		checkDo(t, "drawn", w, m, codes)
		if t.Failed() {
			t.Fatalf("%+v in %+v", m, w)
		}
		for _, code := range codes {
			told[code]++
		}
	}
	for _, code := range []int{0, 3, 4, 7} {
		if told[code] < 20 {
			t.Errorf("code %d is told %d times alone", code, told[code])
		}
	}
}

// The books of a world may share their lists; those of the answer don't.
func TestTheAnswerSharesNothingWhateverTheWorldShares(t *testing.T) {
	b := port()
	w := impl.StewWorld{Past: []impl.StewBook{b, b, b}, Book: b}
	for _, m := range []impl.StewMove{{Steward: impl.StewCounter}, {Steward: impl.StewMender}, {Steward: impl.StewSweeper, Age: 2}, {},
		{Event: impl.StewEvent{Kind: impl.StewTick}}, {Event: sunk("a")}, {Event: failed("web", 1)}} {
		got, codes := impl.StewDo(w, m)
		checkApart(t, fmt.Sprintf("%+v", m), append(spansOf(got), spanOf(codes)), spansOf(w))
	}
	for rounds := range 4 {
		checkApart(t, "calm", spansOf(impl.StewCalm(w, rounds, nil)), spansOf(w))
	}
	if !sameBook(b, port()) {
		t.Error("the book is changed")
	}
}

func TestMovesKeepNothing(t *testing.T) {
	w := eras(impl.StewMender, 5)
	m := impl.StewMove{Steward: impl.StewMender, Age: 1}
	first, codes := impl.StewDo(w, m)
	for range 100 {
		impl.StewDo(first, impl.StewMove{Steward: impl.StewCounter})
		impl.StewCalm(first, 2, nil)
		again, told := impl.StewDo(w, m)
		if !sameWorld(first, again) || !sameList(codes, told) {
			t.Fatalf("%v, then %v", codes, told)
		}
	}
}

// left is how many goroutines there are beyond so many, once those that have done their work are gone.
func left(before int) int {
	for range 2000 {
		if runtime.NumGoroutine() <= before {
			break
		}
		time.Sleep(time.Millisecond)
	}
	return runtime.NumGoroutine() - before
}

func TestNoGoroutineIsLeft(t *testing.T) {
	before := runtime.NumGoroutine()
	for kind := -1; kind <= 8; kind++ {
		for past := range impl.StewMaxPast + 1 {
			for age := range past + 2 {
				impl.StewDo(eras(kind, past), impl.StewMove{Steward: kind, Age: age})
			}
		}
		impl.StewDo(impl.StewWorld{}, impl.StewMove{Steward: kind})
		impl.StewCalm(eras(kind, 3), 20, []int{kind})
	}
	for _, w := range spoiltWorlds() {
		impl.StewDo(w, impl.StewMove{Steward: impl.StewCounter})
		impl.StewCalm(w, 3, nil)
	}
	if n := left(before); n > 0 {
		t.Errorf("%d goroutines are left", n)
	}
}
