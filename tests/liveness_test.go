package tests

import (
	"math/rand"
	"reflect"
	"strconv"
	"testing"

	"loop.example/wharfsteward/impl"
)

// liveRounds is behind how many rounds promise 7 says that all is done.
const liveRounds = 300

// checkLive fails unless the Book is done behind so many rounds, and stays so in other orders too.
func checkLive(t *testing.T, title string, r *rand.Rand, w impl.StewWorld, order []int) {
	t.Helper()
	w = impl.StewCalm(w, liveRounds, order)
	if !impl.StewDone(w.Book) {
		t.Errorf("%s, order %v: not done: %v of %+v", title, order, impl.StewRank(w.Book), w.Book)
	}
	for range 3 {
		if w = impl.StewCalm(w, 1+r.Intn(4), randomOrder(r)); !impl.StewDone(w.Book) {
			t.Errorf("%s, order %v: does not stay done: %+v", title, order, w.Book)
		}
	}
}

// checkAllDone fails if in these rounds an act is asked for that is not done; next gives the order of each round.
func checkAllDone(t *testing.T, title string, w impl.StewWorld, rounds int, next func() []int) {
	t.Helper()
	for i := range rounds {
		for _, m := range modelRound(next()) {
			x, codes := impl.StewDo(w, m)
			for _, code := range codes {
				if code != 0 {
					t.Fatalf("%s, round %d: %+v is told %v in %+v", title, i, m, codes, w)
				}
			}
			w = x
		}
	}
	if rounds == liveRounds && !impl.StewDone(w.Book) {
		t.Errorf("%s: not done: %+v", title, w.Book)
	}
}

// Promise 7.
func TestAllComesToWhatIsWanted(t *testing.T) {
	r := rand.New(rand.NewSource(7))
	var amiss [5]int
	for range 80 {
		w := opened(voyage(r, 20+r.Intn(100)))
		for i, n := range impl.StewRank(w.Book) {
			amiss[i] += min(n, 1)
		}
		checkLive(t, "drawn", r, w, randomOrder(r))
		checkLive(t, "drawn", r, w, r.Perm(7))
		if t.Failed() {
			t.Fatalf("%+v", w)
		}
	}
	for i, n := range amiss {
		if n < 20 {
			t.Errorf("number %d of the rank is above 0 of %d worlds alone", i, n)
		}
	}
}

// Promise 7 with an order of its own for each round, and promise 8.
func TestEachActOfTheCalmIsDone(t *testing.T) {
	r := rand.New(rand.NewSource(78))
	for i := range 60 {
		w := opened(voyage(r, 20+r.Intn(100)))
		order := r.Perm(7)
		rounds := 40
		if i%20 == 0 {
			rounds = liveRounds
		}
		checkAllDone(t, "one order", w, rounds, func() []int { return order })
		checkAllDone(t, "many orders", w, rounds, func() []int { return randomOrder(r) })
	}
}

// The latest worlds of which promises 7 and 8 speak.
func TestCalmOfLateWorlds(t *testing.T) {
	r := rand.New(rand.NewSource(77))
	for range 20 {
		w := copyWorld(opened(voyage(r, 20+r.Intn(100))))
		w.Book.Now = 900000
		for i := range w.Book.Services {
			w.Book.Services[i].Next = 900000
		}
		checkLive(t, "late", r, w, randomOrder(r))
		checkAllDone(t, "late", w, 40, func() []int { return randomOrder(r) })
	}
}

// grand is the fleet of the most services with the most copies that acts can lead to, half of them old.
func grand(t *testing.T) impl.StewWorld {
	t.Helper()
	var w impl.StewWorld
	do := func(m impl.StewMove, times int) {
		for range times {
			x, codes := impl.StewDo(w, m)
			for _, code := range codes {
				if code != 0 {
					t.Fatalf("%+v: %v", m, codes)
				}
			}
			w = x
		}
	}
	do(impl.StewMove{Event: raised("a", false)}, 1)
	do(impl.StewMove{Event: raised("b", false)}, 1)
	for image := 1; image <= 2; image++ {
		for i := range impl.StewMaxServices {
			s := impl.StewService{Name: "s" + strconv.Itoa(i), Image: image, Want: impl.StewMaxWant, Over: impl.StewMaxSpare}
			do(impl.StewMove{Event: wished(s)}, 1)
		}
		do(impl.StewMove{Steward: impl.StewCounter}, 1)
	}
	do(impl.StewMove{Steward: impl.StewWaver}, impl.StewMaxSpare)
	do(impl.StewMove{Event: impl.StewEvent{Kind: impl.StewTick}}, 2)
	if len(w.Book.Copies) != 160 {
		t.Fatalf("%d copies", len(w.Book.Copies))
	}
	return w
}

func TestCalmOfAGrandFleet(t *testing.T) {
	r := rand.New(rand.NewSource(70))
	w := grand(t)
	orders := [][]int{nil, {6, 5, 4, 3, 2, 1}, {3, 1}, {2, 6}}
	for _, order := range orders {
		checkLive(t, "grand", r, w, order)
		checkAllDone(t, "grand", w, 30, func() []int { return order })
	}
	w, _ = impl.StewDo(w, impl.StewMove{Event: raised("a", true)})
	for i := range impl.StewMaxServices {
		s := impl.StewService{Name: "s" + strconv.Itoa(i), Gone: i == 0, Image: 3, Want: 10 - i, Down: i % 2, Over: 1 - i%2}
		if i > 5 {
			s.Per, s.Most = 1, 10
		}
		w, _ = impl.StewDo(w, impl.StewMove{Event: wished(s)})
	}
	for _, order := range orders {
		checkLive(t, "grand, and all changed", r, w, order)
		checkAllDone(t, "grand, and all changed", w, 60, func() []int { return order })
	}
}

// If all 160 copies of the grand fleet fail, and the mender comes ahead of the counter, there is no room in the book for
// all new ones until the others are gone: by chapter 4 those acts wait for a round (code 7), though promise 8 does not
// except them.
func TestAFullBookMakesActsWait(t *testing.T) {
	r := rand.New(rand.NewSource(71))
	w := grand(t)
	for _, c := range w.Book.Copies {
		w, _ = impl.StewDo(w, impl.StewMove{Event: failed(c.Service, c.Number)})
	}
	checkLive(t, "all failed", r, w, []int{3, 1})
	checkAllDone(t, "all failed, the counter first", w, 30, func() []int { return []int{1, 3} })
	w = moved(w, 1)
	w = checkDo(t, "the mender", w, impl.StewMove{Steward: impl.StewMender}, make([]int, 8))
	w = checkDo(t, "the counter", w, impl.StewMove{Steward: impl.StewCounter}, []int{0, 0, 0, 0, 7, 7, 7, 7})
	w = moved(w, 1)
	checkDo(t, "the counter, a round on", w, impl.StewMove{Steward: impl.StewCounter}, []int{0, 0, 0, 0})
}

// Without a berth that is not to be drained copies wait; they are there as soon as there is one.
func TestCalmWithoutAnOpenBerth(t *testing.T) {
	r := rand.New(rand.NewSource(72))
	var w impl.StewWorld
	w, _ = impl.StewDo(w, impl.StewMove{Event: wished(impl.StewService{Name: "web", Image: 1, Want: 3, Over: 1})})
	w = impl.StewCalm(w, liveRounds, nil)
	if rank := impl.StewRank(w.Book); !reflect.DeepEqual(rank, []int{0, 0, 0, 0, 3}) {
		t.Errorf("no berth: %v", rank)
	}
	checkLive(t, "a berth at last", r, opened(w), nil)
}

// Promises 1, 3 and 4.
func TestPromisesAlongTheMoves(t *testing.T) {
	r := rand.New(rand.NewSource(134))
	var tally moveTally
	for range 60 {
		w := voyage(r, 5)
		for range 100 {
			m := randomMove(r, w.Book)
			x, codes := impl.StewDo(w, m)
			if !impl.StewWorldOk(x) {
				t.Fatalf("%+v leads to a world that is not ok: %+v", m, x)
			}
			if m.Steward >= 1 && m.Steward <= 6 {
				checkActs(t, impl.StewAsk(m.Steward, modelSeen(w, m.Age)), codes, w, x, &tally)
			} else {
				checkStep(t, w.Book, x.Book, codes[0])
			}
			if t.Failed() {
				t.Fatalf("%+v in %+v", m, w)
			}
			w = x
		}
	}
	if tally.done < 500 || tally.late < 200 || tally.ready < 100 || tally.created < 100 {
		t.Errorf("too few: %+v", tally)
	}
}

// moveTally is how many acts were done and were late, and how many of those that were done ended a ready copy and
// created some.
type moveTally struct {
	done, late, ready, created int
}

// checkActs holds the acts of a look in w against the books that it led to, as x remembers them.
func checkActs(t *testing.T, acts []impl.StewAct, codes []int, w, x impl.StewWorld, tally *moveTally) {
	t.Helper()
	if len(codes) != len(acts) {
		t.Errorf("%d codes of %d acts", len(codes), len(acts))
		return
	}
	books := append(append([]impl.StewBook(nil), x.Past...), x.Book)
	done := 0
	for _, code := range codes {
		if code == 0 {
			done++
		}
	}
	books = books[len(books)-1-done:]
	if !sameBook(books[0], w.Book) {
		t.Error("the past does not begin with the book as it was")
	}
	for i, a := range acts {
		late := modelAbsent(books[0], a) || modelLate(books[0], a)
		if late {
			tally.late++
			if codes[i] != 3 && codes[i] != 4 {
				t.Errorf("%+v is late, and told %d", a, codes[i])
			}
		}
		if codes[i] != 0 {
			continue
		}
		tally.done++
		checkStep(t, books[0], books[1], 0)
		checkNoHarm(t, books[0], books[1], a, tally)
		checkTouched(t, books[0], books[1], a)
		books = books[1:]
	}
}

// checkStep is promise 1.
func checkStep(t *testing.T, before, after impl.StewBook, code int) {
	t.Helper()
	if code == 0 && (!impl.StewValid(after) || after.Now != before.Now+1) {
		t.Errorf("not a change: %+v", after)
	}
	if code != 0 && !sameBook(before, after) {
		t.Errorf("a change with code %d: %+v", code, after)
	}
}

// checkNoHarm is promise 3.
func checkNoHarm(t *testing.T, before, after impl.StewBook, a impl.StewAct, tally *moveTally) {
	t.Helper()
	s, there := serviceOf(after, a.Service)
	n := impl.StewCountOf(after, a.Service)
	if there && !s.Gone && !a.Scale && endsReady(before, a) {
		tally.ready++
		if n.Ready < s.Want-s.Down {
			t.Errorf("%+v leaves %+v of %+v", a, n, s)
		}
	}
	if a.Create > 0 {
		tally.created++
		if n.Live > s.Want+s.Over {
			t.Errorf("%+v leaves %+v of %+v", a, n, s)
		}
	}
}

// checkTouched is the second half of promise 4: an act touches its service and the copies that it ends alone.
func checkTouched(t *testing.T, before, after impl.StewBook, a impl.StewAct) {
	t.Helper()
	for _, s := range before.Services {
		if now, _ := serviceOf(after, s.Name); s.Name != a.Service && now != s {
			t.Errorf("%+v touches %s", a, s.Name)
		}
	}
	ends := map[int]bool{}
	for _, e := range a.Ends {
		ends[e.Number] = true
	}
	for _, c := range before.Copies {
		at := placeOf(after, c.Service, c.Number)
		if at < 0 || after.Copies[at] != c && !(c.Service == a.Service && ends[c.Number]) {
			t.Errorf("%+v touches copy %d of %s", a, c.Number, c.Service)
		}
	}
	if len(after.Copies) != len(before.Copies)+a.Create || !reflect.DeepEqual(after.Berths, copyBook(before).Berths) {
		t.Errorf("%+v leaves %+v", a, after)
	}
}
