package tests

import (
	"fmt"
	"math/rand"
	"reflect"
	"testing"

	"loop.example/wharfsteward/impl"
)

// haven is a book that is done: api follows its load, db wants none, web is an ordinary service.
func haven() impl.StewBook {
	b := impl.StewBook{
		Now: 80,
		Services: []impl.StewService{
			{Name: "api", Version: 21, Image: 3, Want: 2, Down: 1, Over: 2, Next: 30, Per: 10, Least: 1, Most: 4, Load: 15},
			{Name: "db", Version: 22, Image: 1, Over: 1, Next: 4},
			{Name: "web", Version: 24, Image: 2, Want: 3, Down: 1, Over: 1, Next: 12},
		},
		Berths: []impl.StewBerth{{Name: "a"}, {Name: "b", Drain: true}, {Name: "c"}},
	}
	for i, s := range []string{"api", "api", "web", "web", "web"} {
		c := impl.StewCopy{Service: s, Number: 3 + i, Version: 40 + i, Image: 3, State: impl.StewReady, Berth: []string{"a", "c"}[i%2]}
		if s == "web" {
			c.Image = 2
		}
		b.Copies = append(b.Copies, c)
	}
	return b
}

// Places in haven's lists.
const (
	havenAPI     = 0
	havenDB      = 1
	havenWeb     = 2
	havenWebCopy = 2
)

func checkDone(t *testing.T, title string, b impl.StewBook, want bool) {
	t.Helper()
	unharmed(t, title, b, func(b impl.StewBook) {
		if got := impl.StewDone(b); got != want {
			t.Errorf("%s: done is %v", title, got)
		}
	})
}

func checkRank(t *testing.T, title string, b impl.StewBook, want [5]int) {
	t.Helper()
	unharmed(t, title, b, func(b impl.StewBook) {
		got := impl.StewRank(b)
		if !reflect.DeepEqual(got, want[:]) {
			t.Errorf("%s: rank is %v, want %v", title, got, want)
		}
	})
}

// extra puts a copy of web behind the others.
func extra(c impl.StewCopy) func(b *impl.StewBook) {
	return func(b *impl.StewBook) {
		c.Service, c.Number, c.Version = "web", 11, 50
		b.Copies = append(b.Copies, c)
	}
}

// ranked is haven with something altered, its rank, and whether it is done.
type ranked struct {
	title string
	alter func(b *impl.StewBook)
	rank  [5]int
	done  bool
}

func checkRanked(t *testing.T, cases []ranked) {
	t.Helper()
	for _, c := range cases {
		b := haven()
		c.alter(&b)
		if !impl.StewValid(b) {
			t.Fatalf("%s is not valid", c.title)
		}
		checkRank(t, c.title, b, c.rank)
		checkDone(t, c.title, b, c.done)
	}
}

func TestDoneAndNotDone(t *testing.T) {
	web := func(c *impl.StewBook) *impl.StewCopy { return &c.Copies[havenWebCopy] }
	checkRanked(t, []ranked{
		{"all as it is wanted", func(b *impl.StewBook) {}, [5]int{}, true},
		{"a service is gone", func(b *impl.StewBook) { b.Services[havenDB].Gone = true }, [5]int{1}, false},
		{"a gone service with a want", func(b *impl.StewBook) { b.Services[havenDB].Gone, b.Services[havenDB].Want = true, 4 }, [5]int{1}, false},
		{"one too few", func(b *impl.StewBook) { b.Services[havenWeb].Want = 4 }, [5]int{0, 0, 1}, false},
		{"one too many", func(b *impl.StewBook) { b.Services[havenWeb].Want = 2 }, [5]int{0, 0, 1}, false},
		{"one too many of one, one too few of another", func(b *impl.StewBook) { b.Services[havenWeb].Want, b.Services[havenDB].Want = 2, 1 }, [5]int{0, 0, 2}, false},
		{"far too few", func(b *impl.StewBook) { b.Services[havenWeb].Want, b.Services[havenDB].Want = 10, 10 }, [5]int{0, 0, 17}, false},
		{"of an old image", func(b *impl.StewBook) { web(b).Image = 1 }, [5]int{0, 0, 0, 1}, false},
		{"of an image to come", func(b *impl.StewBook) { web(b).Image = 3 }, [5]int{0, 0, 0, 1}, false},
		{"all of an old image", func(b *impl.StewBook) { b.Services[havenWeb].Image = 9 }, [5]int{0, 0, 0, 3}, false},
		{"on a berth that is to be drained", func(b *impl.StewBook) { web(b).Berth = "b" }, [5]int{0, 0, 0, 1}, false},
		{"old and on such a berth", func(b *impl.StewBook) { web(b).Berth, web(b).Image = "b", 1 }, [5]int{0, 0, 0, 1}, false},
		{"a berth with two of each is to be drained", func(b *impl.StewBook) { b.Berths[0].Drain = true }, [5]int{0, 0, 0, 3}, false},
		{"waiting", func(b *impl.StewBook) { web(b).State, web(b).Berth = impl.StewWaiting, "" }, [5]int{0, 0, 0, 0, 1}, false},
		{"starting", func(b *impl.StewBook) { web(b).State = impl.StewStarting }, [5]int{0, 0, 0, 0, 1}, false},
		{"failed", func(b *impl.StewBook) { web(b).State = impl.StewFailed }, [5]int{0, 0, 0, 0, 1}, false},
		{"failed and old", func(b *impl.StewBook) { web(b).State, web(b).Image = impl.StewFailed, 1 }, [5]int{0, 0, 0, 1, 1}, false},
		{"one of them ends", func(b *impl.StewBook) { web(b).Ending = true }, [5]int{0, 1, 1}, false},
		{"one more ends", extra(impl.StewCopy{Image: 2, State: impl.StewReady, Ending: true, Berth: "a"}), [5]int{0, 1}, false},
		{"one more ends, old and drained and failed", extra(impl.StewCopy{Image: 1, State: impl.StewFailed, Ending: true, Berth: "b"}), [5]int{0, 1}, false},
		{"one more waits", extra(impl.StewCopy{Image: 2, State: impl.StewWaiting}), [5]int{0, 0, 1, 0, 1}, false},
		{"no berth is to be drained", func(b *impl.StewBook) { b.Berths[1].Drain = false }, [5]int{}, true},
		{"no copies wanted, none there", func(b *impl.StewBook) { b.Copies, b.Services = nil, b.Services[havenDB:havenWeb] }, [5]int{}, true},
		{"no copies there", func(b *impl.StewBook) { b.Copies = nil }, [5]int{0, 0, 5}, false},
	})
}

func TestDoneFollowsTheLoad(t *testing.T) {
	api := func(b *impl.StewBook) *impl.StewService { return &b.Services[havenAPI] }
	var cases []ranked
	for load, done := range map[int]bool{0: false, 9: false, 10: false, 11: true, 15: true, 20: true, 21: false, impl.StewMaxLoad: false} {
		cases = append(cases, ranked{fmt.Sprint("load ", load), func(b *impl.StewBook) { api(b).Load = load }, [5]int{}, done})
	}
	for cool := range impl.StewCool + 1 {
		cases = append(cases, ranked{fmt.Sprint("cool ", cool), func(b *impl.StewBook) { api(b).Cool = cool }, [5]int{}, cool == 0})
	}
	cases = append(cases, []ranked{
		{"no more than most", func(b *impl.StewBook) { api(b).Load, api(b).Most = 900, 2 }, [5]int{}, true},
		{"more than most", func(b *impl.StewBook) { api(b).Most = 1 }, [5]int{}, false},
		{"no less than least", func(b *impl.StewBook) { api(b).Load, api(b).Least = 0, 2 }, [5]int{}, true},
		{"less than least", func(b *impl.StewBook) { api(b).Least = 3 }, [5]int{}, false},
		{"least, but cool", func(b *impl.StewBook) { api(b).Load, api(b).Least, api(b).Cool = 0, 2, 1 }, [5]int{}, false},
		{"a per of 1", func(b *impl.StewBook) { api(b).Per, api(b).Load = 1, 2 }, [5]int{}, true},
		{"a per of 1, one more", func(b *impl.StewBook) { api(b).Per, api(b).Load = 1, 3 }, [5]int{}, false},
		{"the last of the services", func(b *impl.StewBook) { b.Services[havenWeb].Per, b.Services[havenWeb].Most = 5, 9 }, [5]int{}, false},
		{"what is due is not there", func(b *impl.StewBook) { api(b).Load, api(b).Want = 25, 3 }, [5]int{0, 0, 1}, false},
	}...)
	checkRanked(t, cases)
}

// A copy of a service that is gone counts in the second number; in the fourth and fifth as any that is Live; the third
// leaves its service out.
func TestRankOfServicesThatAreGone(t *testing.T) {
	web := func(b *impl.StewBook, at int) *impl.StewCopy { return &b.Copies[havenWebCopy+at] }
	gone := func(alter func(b *impl.StewBook)) func(b *impl.StewBook) {
		return func(b *impl.StewBook) {
			b.Services[havenWeb].Gone = true
			alter(b)
		}
	}
	checkRanked(t, []ranked{
		{"with copies", gone(func(b *impl.StewBook) {}), [5]int{1, 3}, false},
		{"with a want that is not met", gone(func(b *impl.StewBook) { b.Services[havenWeb].Want = 9 }), [5]int{1, 3}, false},
		{"with one that ends", gone(func(b *impl.StewBook) { web(b, 0).Ending = true }), [5]int{1, 3}, false},
		{"with all that end", gone(func(b *impl.StewBook) { web(b, 0).Ending, web(b, 1).Ending, web(b, 2).Ending = true, true, true }), [5]int{1, 3}, false},
		{"with an old one", gone(func(b *impl.StewBook) { web(b, 0).Image = 1 }), [5]int{1, 3, 0, 1}, false},
		{"with one to be drained", gone(func(b *impl.StewBook) { web(b, 1).Berth = "b" }), [5]int{1, 3, 0, 1}, false},
		{"with one that failed", gone(func(b *impl.StewBook) { web(b, 2).State = impl.StewFailed }), [5]int{1, 3, 0, 0, 1}, false},
		{"with an old one that ends", gone(func(b *impl.StewBook) { web(b, 0).Image, web(b, 0).Ending = 1, true }), [5]int{1, 3}, false},
		{"with one that failed and ends", gone(func(b *impl.StewBook) { web(b, 2).State, web(b, 2).Ending = impl.StewFailed, true }), [5]int{1, 3}, false},
		{"and another that is gone", gone(func(b *impl.StewBook) { b.Services[havenDB].Gone = true }), [5]int{2, 3}, false},
		{"and another with one that ends", gone(func(b *impl.StewBook) { b.Copies[0].Ending = true }), [5]int{1, 4, 1}, false},
		{"all gone", gone(func(b *impl.StewBook) { b.Services[havenDB].Gone, b.Services[havenAPI].Gone = true, true }), [5]int{3, 5}, false},
	})
}

func TestAllFiveNumbersAtOnce(t *testing.T) {
	checkRank(t, "fleet", fleet(), [5]int{1, 1, 1, 2, 3})
	checkRank(t, "port", port(), [5]int{2, 4, 1, 3, 2})
	full := crowd(impl.StewMaxServices, impl.StewMaxCopies, impl.StewMaxBerths)
	checkRank(t, "a full book", full, [5]int{0, 0, 200, 0, 200})
	full.Services[0].Gone = true
	checkRank(t, "a full book, gone", full, [5]int{1, 200, 0, 0, 200})
}

func TestDoneOfTheBookWithNothing(t *testing.T) {
	checkDone(t, "nothing", impl.StewBook{}, true)
	checkRank(t, "nothing", impl.StewBook{}, [5]int{})
	b := impl.StewBook{Now: 5, Berths: []impl.StewBerth{{Name: "a", Drain: true}}}
	checkDone(t, "berths alone", b, true)
	checkRank(t, "berths alone", b, [5]int{})
	b = withNow(haven(), impl.StewMaxNumber)
	checkDone(t, "no version left", b, true)
	checkRank(t, "no version left", b, [5]int{})
}

func TestDoneOfBooksThatAreNotValid(t *testing.T) {
	for _, c := range []change{
		{"now", func(b *impl.StewBook) { b.Now = 20 }},
		{"now below 0", func(b *impl.StewBook) { b.Now = -1 }},
		{"now above", func(b *impl.StewBook) { b.Now = impl.StewMaxNumber + 1 }},
		{"a service's name", func(b *impl.StewBook) { b.Services[havenDB].Name = "dB" }},
		{"neither down nor over", func(b *impl.StewBook) { b.Services[havenDB].Over = 0 }},
		{"per below 0", func(b *impl.StewBook) { b.Services[havenAPI].Per = -1 }},
		{"copies turned round", func(b *impl.StewBook) { b.Copies[3], b.Copies[4] = b.Copies[4], b.Copies[3] }},
		{"a copy of no service", func(b *impl.StewBook) { b.Services = b.Services[:havenWeb] }},
		{"a copy on no berth", func(b *impl.StewBook) { b.Berths = b.Berths[:2] }},
		{"a ready copy without a berth", func(b *impl.StewBook) { b.Copies[2].Berth = "" }},
		{"too many berths", func(b *impl.StewBook) { b.Berths = make([]impl.StewBerth, 1000) }},
		{"gone, and not valid", func(b *impl.StewBook) { b.Services[havenWeb].Gone, b.Services[havenWeb].Next = true, 0 }},
		{"too many copies", func(b *impl.StewBook) { *b = crowd(1, impl.StewMaxCopies+1, 1) }},
		{"no services", func(b *impl.StewBook) { b.Services = nil }},
	} {
		b := haven()
		c.do(&b)
		checkDone(t, c.name, b, false)
		checkRank(t, c.name, b, [5]int{})
	}
}

func TestARankIsNewMemory(t *testing.T) {
	for _, b := range []impl.StewBook{haven(), port(), {}, {Now: -1}} {
		first := impl.StewRank(b)
		was := append([]int(nil), first...)
		second := impl.StewRank(b)
		for i := range cap(first) {
			first[:cap(first)][i] = 99
		}
		if !reflect.DeepEqual(second, was) || !reflect.DeepEqual(impl.StewRank(b), was) {
			t.Errorf("%v, then %v", was, second)
		}
	}
}

// modelRank counts by the words of chapter 7.
func modelRank(b impl.StewBook) [5]int {
	var rank [5]int
	if !impl.StewValid(b) {
		return rank
	}
	for _, s := range b.Services {
		n := impl.StewCountOf(b, s.Name)
		drainedOrOld := len(modelLive(b, s, func(c impl.StewCopy) bool { return modelDrained(b, c) && c.Image == s.Image })) + n.Old
		rank[1] += n.Ending
		rank[3] += drainedOrOld
		rank[4] += n.Live - n.Ready
		switch {
		case s.Gone:
			rank[0]++
			rank[1] += n.Live
		case n.Live < s.Want:
			rank[2] += s.Want - n.Live
		default:
			rank[2] += n.Live - s.Want
		}
	}
	return rank
}

// modelFollowed says whether all that follow their load have the Want that they are to have, and Cool 0.
func modelFollowed(b impl.StewBook) bool {
	for _, s := range b.Services {
		if s.Per > 0 && (s.Want != modelDue(s) || s.Cool != 0) {
			return false
		}
	}
	return true
}

func endingIn(b impl.StewBook) int {
	n := 0
	for _, c := range b.Copies {
		if c.Ending {
			n++
		}
	}
	return n
}

// randomHaven is a random book that is done.
func randomHaven(r *rand.Rand) impl.StewBook {
	b := randomBook(r)
	b.Berths[0].Drain = false
	b.Copies = nil
	for i := range b.Services {
		s := &b.Services[i]
		s.Gone, s.Cool, s.Next = false, 0, 1
		if s.Per > 0 {
			s.Want = modelDue(*s)
		}
		for range s.Want {
			c := randomCopy(r, s.Name, s.Next)
			c.Image, c.State, c.Ending, c.Berth = s.Image, impl.StewReady, false, "a"
			if !b.Berths[1].Drain && r.Intn(2) == 0 {
				c.Berth = "b"
			}
			b.Copies = append(b.Copies, c)
			s.Next += 1 + r.Intn(2)
		}
	}
	return b
}

// upset alters one thing of a book, which may leave it done, or not valid.
func upset(r *rand.Rand, b *impl.StewBook) {
	s := &b.Services[r.Intn(len(b.Services))]
	c := &impl.StewCopy{}
	if len(b.Copies) > 0 {
		c = &b.Copies[r.Intn(len(b.Copies))]
	}
	switch r.Intn(10) {
	case 0:
		s.Gone = true
	case 1:
		s.Want = r.Intn(11)
	case 2:
		s.Image = r.Intn(3)
	case 3:
		s.Load = r.Intn(100)
	case 4:
		s.Cool = r.Intn(4)
	case 5:
		c.Ending = true
	case 6:
		c.Image = 1 + r.Intn(2)
	case 7:
		c.State = 1 + r.Intn(4)
	case 8:
		c.Berth = []string{"a", "b", "c"}[r.Intn(3)]
	case 9:
		b.Berths[r.Intn(2)].Drain = r.Intn(2) == 0
	}
}

// Promise 5, and chapter 7 as a whole.
func TestDoneAgainstTheRank(t *testing.T) {
	r := rand.New(rand.NewSource(5))
	told := map[bool]int{}
	for i := range 20000 {
		b := randomHaven(r)
		for range i % 4 {
			upset(r, &b)
		}
		if i%5 == 0 {
			b = randomView(r)
		}
		checkRank(t, "random book", b, modelRank(b))
		want := impl.StewValid(b) && modelRank(b) == [5]int{} && endingIn(b) == 0 && modelFollowed(b)
		checkDone(t, "random book", b, want)
		if t.Failed() {
			t.Fatalf("%+v", b)
		}
		told[want]++
	}
	if told[true] < 2000 || told[false] < 2000 {
		t.Errorf("told %v", told)
	}
}

// Promise 6.
func TestNothingIsToDoInABookThatIsDone(t *testing.T) {
	r := rand.New(rand.NewSource(66))
	for i := range 3000 {
		b := randomHaven(r)
		if i == 0 {
			b = haven()
		}
		for range r.Intn(3) {
			spoilt := copyBook(b)
			if upset(r, &spoilt); impl.StewDone(spoilt) {
				b = spoilt
			}
		}
		checkDone(t, "a book that is done", b, true)
		for kind := 0; kind <= 7; kind++ {
			checkAsk(t, "a book that is done", kind, b, "")
		}
		after := checkSea(t, "a tick when all is done", b, impl.StewEvent{Kind: impl.StewTick}, 0)
		if !sameBook(after, withNow(b, b.Now+1)) {
			t.Errorf("a tick changes what is done:\n%+v, then\n%+v", b, after)
		}
		checkDone(t, "behind a tick", after, true)
		if t.Failed() {
			t.Fatalf("%+v", b)
		}
	}
}
