package tests

import (
	"fmt"
	"math"
	"math/rand"
	"strconv"
	"testing"

	"loop.example/wharfsteward/impl"
)

// busy is a world of a service for each of the stewards, of which it asks for something in the first round whatever the
// others have done, and one more for several of them at once.
func busy() impl.StewWorld {
	b := needy(impl.StewCounter, 0, 100)
	for kind := impl.StewCounter; kind <= impl.StewDrainer; kind++ {
		one := needy(kind, kind+1, 100)
		b.Services = append(b.Services, one.Services[kind])
		for _, c := range one.Copies {
			if c.Service == one.Services[kind].Name {
				b.Copies = append(b.Copies, c)
			}
		}
	}
	b.Services = append(b.Services, impl.StewService{Name: "web", Version: 24, Image: 2, Want: 3, Down: 1, Over: 1, Next: 12, Per: 10, Most: 5, Load: 15})
	b.Copies = append(b.Copies,
		impl.StewCopy{Service: "web", Number: 1, Version: 51, Image: 1, State: impl.StewReady, Berth: "a"},
		impl.StewCopy{Service: "web", Number: 2, Version: 52, Image: 2, State: impl.StewReady, Berth: "a"},
		impl.StewCopy{Service: "web", Number: 3, Version: 53, Image: 2, State: impl.StewFailed, Berth: "z"})
	return impl.StewWorld{Past: []impl.StewBook{withNow(port(), 98), withNow(port(), 99)}, Book: b}
}

// moved are the moves of these rounds done one by one: StewTick, then these stewards with Age 0.
func moved(w impl.StewWorld, rounds int, stewards ...int) impl.StewWorld {
	for range rounds {
		w, _ = impl.StewDo(w, impl.StewMove{Event: impl.StewEvent{Kind: impl.StewTick}})
		for _, kind := range stewards {
			w, _ = impl.StewDo(w, impl.StewMove{Steward: kind})
		}
	}
	return w
}

func TestHowManyRounds(t *testing.T) {
	// When all is done a round is one tick, so that Now tells how many there were.
	w := impl.StewWorld{Book: haven()}
	now := w.Book.Now
	for rounds, want := range map[int]int{math.MinInt: 0, -1000: 0, -1: 0, 0: 0, 1: 1, 2: 2, 7: 7, 8: 8, 9: 9, 300: 300, 999: 999,
		impl.StewMaxCalm: 1000, impl.StewMaxCalm + 1: 1000, math.MaxInt: 1000} {
		title := strconv.Itoa(rounds) + " rounds"
		got := calmed(t, title, w, rounds, nil)
		if got.Book.Now != now+want || len(got.Past) != min(want, impl.StewMaxPast) || !impl.StewDone(got.Book) {
			t.Errorf("%s: Now is %d behind %d, with %d past", title, got.Book.Now, now, len(got.Past))
		}
		for i, b := range got.Past {
			if b.Now != got.Book.Now-len(got.Past)+i {
				t.Errorf("%s: past %d is of %d", title, i, b.Now)
			}
		}
	}
	for _, rounds := range []int{math.MinInt, -1, 0} {
		checkCalm(t, "no rounds", busy(), rounds, []int{6, 1}, busy())
	}
	checkCalm(t, "a round", busy(), 1, nil, moved(busy(), 1, 1, 2, 3, 4, 5, 6))
	most := checkCalm(t, "the most", busy(), impl.StewMaxCalm, nil, moved(busy(), impl.StewMaxCalm, 1, 2, 3, 4, 5, 6))
	checkCalm(t, "one more", busy(), impl.StewMaxCalm+1, nil, most)
}

func TestOrdersOfStewards(t *testing.T) {
	for _, c := range []struct {
		order, whole []int
	}{
		{nil, []int{1, 2, 3, 4, 5, 6}},
		{[]int{}, []int{1, 2, 3, 4, 5, 6}},
		{[]int{1, 2, 3, 4, 5, 6}, []int{1, 2, 3, 4, 5, 6}},
		{[]int{6, 5, 4, 3, 2, 1}, []int{6, 5, 4, 3, 2, 1}},
		{[]int{4, 1, 6, 3, 2, 5}, []int{4, 1, 6, 3, 2, 5}},
		{[]int{1}, []int{1, 2, 3, 4, 5, 6}},
		{[]int{2}, []int{2, 1, 3, 4, 5, 6}},
		{[]int{6}, []int{6, 1, 2, 3, 4, 5}},
		{[]int{4, 3}, []int{4, 3, 1, 2, 5, 6}},
		{[]int{6, 2, 4}, []int{6, 2, 4, 1, 3, 5}},
		{[]int{6, 5, 4, 3, 2}, []int{6, 5, 4, 3, 2, 1}},
		{[]int{3, 3, 3}, []int{3, 1, 2, 4, 5, 6}},
		{[]int{4, 2, 4, 3, 2}, []int{4, 2, 3, 1, 5, 6}},
		{[]int{6, 5, 4, 3, 2, 1, 2, 3, 4, 5, 6}, []int{6, 5, 4, 3, 2, 1}},
		{[]int{0, 7}, []int{1, 2, 3, 4, 5, 6}},
		{[]int{-1, 4, 0, 2, 7, 100, 3}, []int{4, 2, 3, 1, 5, 6}},
		{[]int{math.MinInt, 5, math.MaxInt}, []int{5, 1, 2, 3, 4, 6}},
		{[]int{9, 0, 3, 3}, []int{3, 1, 2, 4, 5, 6}},
		{append(make([]int, 100000), 4, 6), []int{4, 6, 1, 2, 3, 5}},
	} {
		for _, rounds := range []int{1, 2, 5} {
			title := fmt.Sprint(rounds, " rounds in order ", c.order[max(0, len(c.order)-12):])
			checkCalm(t, title, busy(), rounds, c.order, moved(busy(), rounds, c.whole...))
		}
	}
}

func TestEachWholeOrder(t *testing.T) {
	seen := map[string]bool{}
	var draw func(order, rest []int)
	draw = func(order, rest []int) {
		if len(rest) == 0 {
			got := checkCalm(t, fmt.Sprint(order), busy(), 1, order, moved(busy(), 1, order...))
			seen[fmt.Sprintf("%+v", got)] = true
		}
		for i, kind := range rest {
			others := append(append([]int(nil), rest[:i]...), rest[i+1:]...)
			draw(append(order[:len(order):len(order)], kind), others)
		}
	}
	draw(nil, []int{1, 2, 3, 4, 5, 6})
	if len(seen) != 720 {
		t.Errorf("of 720 orders %d are told apart", len(seen))
	}
}

func TestCalmOfAWorldThatIsNotOk(t *testing.T) {
	for title, w := range spoiltWorlds() {
		for _, rounds := range []int{-1, 0, 1, impl.StewMaxCalm, impl.StewMaxCalm + 1} {
			checkCalm(t, title, w, rounds, []int{2, 1}, impl.StewWorld{})
		}
	}
}

func TestCalmOfTheWorldWithNothing(t *testing.T) {
	got := checkCalm(t, "nothing", impl.StewWorld{}, 3, nil, moved(impl.StewWorld{}, 3))
	if got.Book.Now != 3 || len(got.Past) != 3 {
		t.Errorf("nothing: %+v", got)
	}
	checkCalm(t, "nothing, not at all", impl.StewWorld{}, 0, nil, impl.StewWorld{})
}

func TestCalmWhenNoVersionIsLeft(t *testing.T) {
	w := busy()
	w.Book.Now = impl.StewMaxNumber
	checkCalm(t, "none left", w, 50, nil, w)
	w.Book.Now = impl.StewMaxNumber - 3
	got := checkCalm(t, "three left", w, 50, []int{3}, moved(w, 50, 3, 1, 2, 4, 5, 6))
	if got.Book.Now != impl.StewMaxNumber || len(got.Past) != 5 {
		t.Errorf("three left: Now is %d", got.Book.Now)
	}
}

func TestCalmAgainstTheModel(t *testing.T) {
	r := rand.New(rand.NewSource(88))
	for i := range 500 {
		w := randomWorld(r)
		if i%2 == 0 {
			w = voyage(r, r.Intn(60))
		}
		rounds, order := r.Intn(8)-1, randomOrder(r)
		checkCalm(t, "drawn", w, rounds, order, modelCalm(w, rounds, order))
		if t.Failed() {
			t.Fatalf("%d rounds in order %v of %+v", rounds, order, w)
		}
	}
}

// Promise 9.
func TestRoundsAddUp(t *testing.T) {
	r := rand.New(rand.NewSource(9))
	check := func(w impl.StewWorld, a, b int, order []int) {
		t.Helper()
		first := calmed(t, "the first", w, a, order)
		checkCalm(t, fmt.Sprintf("%d and %d rounds in order %v", a, b, order), first, b, order, impl.StewCalm(w, a+b, order))
	}
	for i := range 200 {
		w := randomWorld(r)
		if i%2 == 0 {
			w = voyage(r, r.Intn(60))
		}
		check(w, r.Intn(20), r.Intn(20), randomOrder(r))
		check(w, 0, r.Intn(20), randomOrder(r))
		check(w, r.Intn(20), 0, randomOrder(r))
		if t.Failed() {
			t.Fatalf("%+v", w)
		}
	}
	for _, a := range []int{0, 1, 3, 500, 999, 1000} {
		check(busy(), a, impl.StewMaxCalm-a, []int{5, 3})
	}
}

// The document's example of a session, as moves.
func TestTheDocumentsExample(t *testing.T) {
	var w impl.StewWorld
	do := func(m impl.StewMove, code int) {
		t.Helper()
		w = checkDo(t, fmt.Sprintf("%+v", m), w, m, []int{code})
	}
	show := func(now int, want impl.StewCount) {
		t.Helper()
		if n := impl.StewCountOf(w.Book, "web"); n != want || w.Book.Now != now {
			t.Errorf("%+v at %d, want %+v at %d", n, w.Book.Now, want, now)
		}
	}
	do(impl.StewMove{Event: raised("a", false)}, 0)
	do(impl.StewMove{Event: raised("b", false)}, 0)
	do(impl.StewMove{Event: wished(impl.StewService{Name: "web", Image: 1, Want: 3, Down: 1, Over: 1})}, 0)
	do(impl.StewMove{Steward: 1}, 0)
	do(impl.StewMove{Steward: 1, Age: 1}, 4)
	do(impl.StewMove{Event: impl.StewEvent{Kind: impl.StewTick}}, 0)
	do(impl.StewMove{Event: impl.StewEvent{Kind: impl.StewTick}}, 0)
	show(6, impl.StewCount{Live: 3, Ready: 3})
	do(impl.StewMove{Event: wished(impl.StewService{Name: "web", Image: 2, Want: 3, Down: 1, Over: 1})}, 0)
	w = calmed(t, "calm 3", w, 3, nil)
	show(13, impl.StewCount{Live: 4, Ready: 3, Old: 2})
	w = calmed(t, "calm 20", w, 20, nil)
	show(36, impl.StewCount{Live: 3, Ready: 3})
	if !impl.StewDone(w.Book) {
		t.Errorf("%+v", w.Book)
	}
}
