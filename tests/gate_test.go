package tests

import (
	"math"
	"math/rand"
	"strconv"
	"testing"

	"loop.example/wharfsteward/impl"
)

func checkMayEnd(t *testing.T, title string, b impl.StewBook, service string, number int, want bool) {
	t.Helper()
	if got := impl.StewMayEnd(b, service, number); got != want {
		t.Errorf("%s: %s %d may end: %v, want %v", title, service, number, got, want)
	}
}

func TestMayEndInThePort(t *testing.T) {
	b := port()
	for _, n := range []int{1, 2, 5, 9, 12} {
		checkMayEnd(t, "port", b, "api", n, true)
	}
	checkMayEnd(t, "an ending copy", b, "api", 13, false)
	checkMayEnd(t, "a ready copy of a service that is gone", b, "eve", 1, true)
	checkMayEnd(t, "a waiting copy of a service that is gone", b, "eve", 2, true)
	checkMayEnd(t, "an ending copy of a service that is gone", b, "eve", 4, false)
	for _, n := range []int{1, 2, 3} {
		checkMayEnd(t, "port", b, "web", n, true)
	}
}

func TestMayEndOfACopyThatIsNotThere(t *testing.T) {
	b := port()
	for _, service := range []string{"api", "db", "eve", "web", "", "a", "b", "zz", "ap", "apia", name(50000), "\xff"} {
		for _, n := range []int{math.MinInt, -1, 0, 6, 14, 29, 30, 31, math.MaxInt} {
			checkMayEnd(t, "not there", b, service, n, false)
		}
	}
	checkMayEnd(t, "another service's number", b, "web", 5, false)
	checkMayEnd(t, "another service's number", b, "web", 12, false)
	checkMayEnd(t, "a service without copies", b, "db", 1, false)
	checkMayEnd(t, "no service", b, "zz", 1, false)
	checkMayEnd(t, "an empty book", impl.StewBook{}, "api", 1, false)
}

// readyBook has a service with so many ready copies, and as many that are Ending, and a second one with many.
func readyBook(ready, want, down int) impl.StewBook {
	b := impl.StewBook{Now: 9, Berths: []impl.StewBerth{{Name: "a"}}, Services: []impl.StewService{
		{Name: "s", Version: 1, Image: 1, Want: want, Down: down, Over: 1, Next: 100},
		{Name: "t", Version: 1, Image: 1, Want: 1, Over: 1, Next: 100},
	}}
	for _, service := range []string{"s", "t"} {
		for i := range ready * 2 {
			b.Copies = append(b.Copies, impl.StewCopy{Service: service, Number: i + 1, Version: 1, Image: 1, State: impl.StewReady, Ending: i >= ready, Berth: "a"})
		}
	}
	return b
}

func TestMayEndByHowManyAreReady(t *testing.T) {
	for want := range impl.StewMaxWant + 1 {
		for down := range impl.StewMaxSpare + 1 {
			for ready := 1; ready <= impl.StewMaxWant+2; ready++ {
				b := readyBook(ready, want, down)
				title := "ready " + strconv.Itoa(ready) + " want " + strconv.Itoa(want) + " down " + strconv.Itoa(down)
				checkMayEnd(t, title, b, "s", 1, ready-1 >= want-down)
				checkMayEnd(t, title, b, "s", ready, ready-1 >= want-down)
				checkMayEnd(t, title+", ending", b, "s", ready+1, false)
			}
		}
	}
}

func TestMayEndAtTheEdge(t *testing.T) {
	b := port()
	b.Copies[1].State = impl.StewStarting // 1, 5 and 9 are ready: just Want less Down with the copy itself
	checkMayEnd(t, "one fewer", b, "api", 1, false)
	checkMayEnd(t, "one fewer", b, "api", 9, false)
	checkMayEnd(t, "one that is not ready", b, "api", 2, true)
	checkMayEnd(t, "one that failed", b, "api", 12, true)
	b.Services[portAPI].Gone = true
	checkMayEnd(t, "gone", b, "api", 1, true)
	b.Services[portAPI].Gone = false
	b.Services[portAPI].Down = impl.StewMaxSpare
	checkMayEnd(t, "down above want", b, "api", 1, true)
	b.Copies = b.Copies[:1]
	checkMayEnd(t, "down above want, the last copy", b, "api", 1, true)
	b.Services[portAPI].Down = 4
	checkMayEnd(t, "down of want, the last copy", b, "api", 1, true)
	b.Services[portAPI].Down = 3
	checkMayEnd(t, "down one below want, the last copy", b, "api", 1, false)
}

func TestMayEndOfEachState(t *testing.T) {
	for state := impl.StewWaiting; state <= impl.StewFailed; state++ {
		for _, gone := range []bool{false, true} {
			for _, ending := range []bool{false, true} {
				c := impl.StewCopy{Service: "s", Number: 1, Version: 1, Image: 1, State: state, Ending: ending, Berth: "a"}
				if state == impl.StewWaiting {
					c.Berth = ""
				}
				b := readyBook(1, 10, 0)
				b.Services[0].Gone = gone
				b.Copies[0] = c
				title := "state " + strconv.Itoa(state) + " gone " + strconv.FormatBool(gone) + " ending " + strconv.FormatBool(ending)
				checkMayEnd(t, title, b, "s", 1, !ending && (gone || state != impl.StewReady))
			}
		}
	}
}

func TestMayEndOfABookThatIsNotValid(t *testing.T) {
	for _, spoil := range []change{
		{"now", func(b *impl.StewBook) { b.Now = 52 }},
		{"another service's image", func(b *impl.StewBook) { b.Services[portDB].Image = 0 }},
		{"services turned round", func(b *impl.StewBook) { b.Services[0], b.Services[1] = b.Services[1], b.Services[0] }},
		{"copies turned round", func(b *impl.StewBook) { b.Copies[10], b.Copies[11] = b.Copies[11], b.Copies[10] }},
		{"a copy of no service", func(b *impl.StewBook) { b.Copies[11].Service = "zz" }},
		{"no services", func(b *impl.StewBook) { b.Services = nil }},
		{"no berths", func(b *impl.StewBook) { b.Berths = nil }},
		{"too many copies", func(b *impl.StewBook) { *b = crowd(1, impl.StewMaxCopies+1, 0) }},
	} {
		b := port()
		spoil.do(&b)
		for _, service := range []string{"api", "eve", "web", "zz", "s0"} {
			for n := range 14 {
				checkMayEnd(t, spoil.name, b, service, n, false)
			}
		}
	}
}

func TestMayEndHarmsNothing(t *testing.T) {
	bad := port()
	bad.Copies[1], bad.Copies[0] = bad.Copies[0], bad.Copies[1]
	for n := range 14 {
		for _, service := range []string{"api", "db", "eve", "web", "zz"} {
			use := func(b impl.StewBook) { impl.StewMayEnd(b, service, n) }
			unharmed(t, "port", port(), use)
			unharmed(t, "not valid", bad, use)
		}
	}
}

// Promise 10.
func TestMayEndStaysAllowedWithMoreReady(t *testing.T) {
	r := rand.New(rand.NewSource(10))
	for range 300 {
		b := randomBook(r)
		for _, c := range b.Copies {
			s, _ := serviceOf(b, c.Service)
			may := impl.StewMayEnd(b, c.Service, c.Number)
			if !c.Ending && (s.Gone || c.State != impl.StewReady) && !may {
				t.Fatalf("%+v may not end, of %+v", c, s)
			}
			if may {
				checkStillMayEnd(t, b, c)
			}
		}
	}
}

func checkStillMayEnd(t *testing.T, b impl.StewBook, c impl.StewCopy) {
	t.Helper()
	for i, d := range b.Copies {
		if d.Service == c.Service && d.Number != c.Number {
			more := copyBook(b)
			more.Copies[i].State, more.Copies[i].Berth = impl.StewReady, "a"
			checkMayEnd(t, "with another that is ready", more, c.Service, c.Number, true)
		}
	}
}
