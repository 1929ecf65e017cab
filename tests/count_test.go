package tests

import (
	"strconv"
	"testing"

	"loop.example/wharfsteward/impl"
)

func checkCount(t *testing.T, name string, b impl.StewBook, service string, want impl.StewCount) {
	t.Helper()
	if got := impl.StewCountOf(b, service); got != want {
		t.Errorf("%s: %s counts %+v, want %+v", name, service, got, want)
	}
}

func TestCountsOfTheFleet(t *testing.T) {
	b := fleet()
	checkCount(t, "fleet", b, "api", impl.StewCount{Live: 2, Ready: 2, Old: 1})
	checkCount(t, "fleet", b, "db", impl.StewCount{Ending: 1})
	checkCount(t, "fleet", b, "web", impl.StewCount{Live: 4, Ready: 1, Old: 1, Failed: 1})
	b.Copies = nil
	checkCount(t, "no copies", b, "web", impl.StewCount{})
}

func TestCountsOfOneCopy(t *testing.T) {
	for state := impl.StewWaiting; state <= impl.StewFailed; state++ {
		for image := 1; image <= 3; image++ {
			c := impl.StewCopy{Service: "web", Number: 1, Version: 1, Image: image, State: state, Berth: "a"}
			if state == impl.StewWaiting {
				c.Berth = ""
			}
			want := impl.StewCount{Live: 1}
			if state == impl.StewReady {
				want.Ready = 1
			}
			if image != 2 { // an image above the service's is old as well
				want.Old = 1
			}
			if state == impl.StewFailed {
				want.Failed = 1
			}
			b := fleet()
			b.Copies = []impl.StewCopy{c}
			title := "state " + strconv.Itoa(state) + " image " + strconv.Itoa(image)
			checkCount(t, title, b, "web", want)
			checkCount(t, title, b, "api", impl.StewCount{})
			b.Copies[0].Ending = true
			checkCount(t, title+" ending", b, "web", impl.StewCount{Ending: 1})
		}
	}
}

// mixed gives each service a copy of each state and each of two images, Ending and not.
func mixed() impl.StewBook {
	b := fleet()
	b.Copies = nil
	for i := range b.Services {
		b.Services[i].Next = 100
		b.Services[i].Image = i + 1
		for j := range 16 {
			c := impl.StewCopy{Service: b.Services[i].Name, Number: j + 1, Version: 1, Image: j/4%2 + 1, State: j%4 + 1, Ending: j >= 8, Berth: "a"}
			if c.State == impl.StewWaiting {
				c.Berth = ""
			}
			b.Copies = append(b.Copies, c)
		}
	}
	return b
}

func TestCountsOfMixedCopies(t *testing.T) {
	b := mixed()
	checkCount(t, "mixed", b, "api", impl.StewCount{Live: 8, Ready: 2, Old: 4, Failed: 2, Ending: 8})
	checkCount(t, "mixed", b, "db", impl.StewCount{Live: 8, Ready: 2, Old: 4, Failed: 2, Ending: 8})
	checkCount(t, "mixed", b, "web", impl.StewCount{Live: 8, Ready: 2, Old: 8, Failed: 2, Ending: 8})
	b.Copies = b.Copies[3 : len(b.Copies)-5]
	checkCount(t, "the ends cut off", b, "api", impl.StewCount{Live: 5, Ready: 1, Old: 4, Failed: 2, Ending: 8})
	checkCount(t, "the ends cut off", b, "web", impl.StewCount{Live: 8, Ready: 2, Old: 8, Failed: 2, Ending: 3})
}

func TestCountsOfAFullBook(t *testing.T) {
	b := crowd(impl.StewMaxServices, impl.StewMaxCopies, impl.StewMaxBerths)
	checkCount(t, "full", b, "s0", impl.StewCount{Live: impl.StewMaxCopies})
	checkCount(t, "full", b, "s7", impl.StewCount{})
}

func TestCountsOfNoService(t *testing.T) {
	for _, text := range []string{"", "a", "b", "ap", "apia", "webs", "WEB", "zz", name(50000), "\xff"} {
		checkCount(t, "fleet", fleet(), text, impl.StewCount{})
		checkCount(t, "empty", impl.StewBook{}, text, impl.StewCount{})
	}
}

func TestCountsOfABookThatIsNotValid(t *testing.T) {
	for _, c := range []change{
		{"now", func(b *impl.StewBook) { b.Now = 49 }},
		{"a berth that is not there", func(b *impl.StewBook) { b.Copies[6].Berth = "c" }},
		{"another service's load", func(b *impl.StewBook) { b.Services[dbAt].Load = 1 }},
		{"services turned round", func(b *impl.StewBook) { b.Services[0], b.Services[1] = b.Services[1], b.Services[0] }},
		{"a copy of no service", func(b *impl.StewBook) { b.Copies[0].Service = "aaa" }},
		{"a copy again", func(b *impl.StewBook) { b.Copies = append(b.Copies, b.Copies[6]) }},
		{"a berth's name", func(b *impl.StewBook) { b.Berths[1].Name = "B" }},
		{"too many copies", func(b *impl.StewBook) { *b = crowd(1, impl.StewMaxCopies+1, 0) }},
	} {
		for _, service := range []string{"api", "db", "web", "s0", ""} {
			checkCount(t, c.name, changed(c), service, impl.StewCount{})
		}
	}
}

func TestCountHarmsNothing(t *testing.T) {
	for _, service := range []string{"api", "db", "web", "none"} {
		use := func(b impl.StewBook) { impl.StewCountOf(b, service) }
		unharmed(t, "fleet", fleet(), use)
		unharmed(t, "mixed", mixed(), use)
		bad := fleet()
		bad.Copies[0], bad.Copies[6] = bad.Copies[6], bad.Copies[0]
		unharmed(t, "not valid", bad, use)
	}
}
