package tests

import (
	"math/rand"
	"sort"

	"loop.example/wharfsteward/impl"
)

// modelWorldOk asks by the words of chapter 8, each two books held against each other.
func modelWorldOk(w impl.StewWorld) bool {
	ok := len(w.Past) <= 8 && impl.StewValid(w.Book)
	for i, b := range w.Past {
		ok = ok && impl.StewValid(b) && b.Now <= w.Book.Now
		for _, c := range w.Past[:i] {
			ok = ok && c.Now <= b.Now
		}
	}
	return ok
}

// modelDo does a move by the words of chapter 8, leaning on StewAsk, StewApply and StewSea.
func modelDo(w impl.StewWorld, m impl.StewMove) (impl.StewWorld, []int) {
	if !modelWorldOk(w) {
		return impl.StewWorld{}, nil
	}
	if m.Steward < 1 || m.Steward > 6 {
		after, code := impl.StewSea(w.Book, m.Event)
		return modelTurned(w, after), []int{code}
	}
	var codes []int
	for _, a := range impl.StewAsk(m.Steward, modelSeen(w, m.Age)) {
		after, code := impl.StewApply(w.Book, a)
		w = modelTurned(w, after)
		codes = append(codes, code)
	}
	return w, codes
}

// modelSeen is the book at which a steward looks.
func modelSeen(w impl.StewWorld, age int) impl.StewBook {
	switch {
	case age <= 0 || len(w.Past) == 0:
		return w.Book
	case age > len(w.Past):
		return w.Past[0]
	}
	return w.Past[len(w.Past)-age]
}

func modelTurned(w impl.StewWorld, after impl.StewBook) impl.StewWorld {
	past := append([]impl.StewBook(nil), w.Past...)
	if after.Now != w.Book.Now {
		past = append(past, w.Book)
	}
	if len(past) > 8 {
		past = past[1:]
	}
	return impl.StewWorld{Past: past, Book: after}
}

// modelRound are the moves of a calm round.
func modelRound(order []int) []impl.StewMove {
	moves := []impl.StewMove{{Event: impl.StewEvent{Kind: impl.StewTick}}}
	var told [7]bool
	for _, kind := range order {
		if kind >= 1 && kind <= 6 && !told[kind] {
			moves = append(moves, impl.StewMove{Steward: kind})
			told[kind] = true
		}
	}
	for kind := 1; kind <= 6; kind++ {
		if !told[kind] {
			moves = append(moves, impl.StewMove{Steward: kind})
		}
	}
	return moves
}

func modelCalm(w impl.StewWorld, rounds int, order []int) impl.StewWorld {
	if !modelWorldOk(w) {
		return impl.StewWorld{}
	}
	for i := 0; i < rounds && i < 1000; i++ {
		for _, m := range modelRound(order) {
			w, _ = modelDo(w, m)
		}
	}
	return w
}

// voyage is a world that drawn moves have led to from the one with nothing.
func voyage(r *rand.Rand, moves int) impl.StewWorld {
	w, _ := impl.StewDo(impl.StewWorld{}, impl.StewMove{Event: raised("a", false)})
	for range moves {
		w, _ = impl.StewDo(w, randomMove(r, w.Book))
	}
	return w
}

// opened is w, led on to where there is a berth that is not to be drained.
func opened(w impl.StewWorld) impl.StewWorld {
	for _, berth := range w.Book.Berths {
		if !berth.Drain {
			return w
		}
	}
	w, _ = impl.StewDo(w, impl.StewMove{Event: raised("a", false)})
	return w
}

// randomMove is a look of any age or an event, most of which mean something in b.
func randomMove(r *rand.Rand, b impl.StewBook) impl.StewMove {
	n := r.Intn(20)
	if n < 9 {
		return impl.StewMove{Steward: 1 + r.Intn(6), Age: max(0, r.Intn(18)-9), Event: randomEvent(r)}
	}
	m := impl.StewMove{Steward: []int{0, 7, -1}[r.Intn(3)], Age: r.Intn(9) - 1}
	switch {
	case n < 13:
		m.Event = impl.StewEvent{Kind: impl.StewTick}
	case n < 16:
		m.Event = wished(randomWish(r))
	case n < 17:
		m.Event = raised([]string{"a", "b", "c", "d"}[r.Intn(4)], r.Intn(3) == 0)
	case n < 18 && len(b.Copies) > 0:
		c := b.Copies[r.Intn(len(b.Copies))]
		m.Event = failed(c.Service, c.Number)
	case n < 19 && len(b.Services) > 0:
		m.Event = loaded(b.Services[r.Intn(len(b.Services))].Name, r.Intn(120))
	default:
		m.Event = randomEvent(r)
	}
	return m
}

func randomWish(r *rand.Rand) impl.StewService {
	s := impl.StewService{Name: []string{"api", "db", "eve", "web"}[r.Intn(4)], Gone: r.Intn(8) == 0, Image: 1 + r.Intn(3),
		Want: r.Intn(1 + []int{3, 5, 10}[r.Intn(3)]), Down: r.Intn(3), Over: r.Intn(3)}
	if s.Down == 0 && s.Over == 0 {
		s.Over = 1 + r.Intn(10)
	}
	if r.Intn(2) == 0 {
		s.Per, s.Least, s.Load = 1+r.Intn(20), r.Intn(4), r.Intn(120)
		s.Most = s.Least + r.Intn(7)
	}
	return s
}

// randomOrder tells some of the stewards, some of them again, and numbers that are none.
func randomOrder(r *rand.Rand) []int {
	order := make([]int, r.Intn(10))
	for i := range order {
		order[i] = r.Intn(9) - 1
	}
	return order
}

// randomWorld is an ok world of drawn books, of which none need have led to the next.
func randomWorld(r *rand.Rand) impl.StewWorld {
	var books []impl.StewBook
	for range 1 + r.Intn(impl.StewMaxPast+1) {
		books = append(books, randomView(r))
	}
	sort.SliceStable(books, func(i, j int) bool { return books[i].Now < books[j].Now })
	last := len(books) - 1
	return impl.StewWorld{Past: books[:last], Book: books[last]}
}
