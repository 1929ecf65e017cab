package tests

import (
	"math/rand"
	"reflect"
	"testing"

	"loop.example/wharfsteward/impl"
)

// port is a book for acts: api follows its load and has one ready copy to spare, db is gone without a copy, eve is gone
// with copies, web is an ordinary service.
func port() impl.StewBook {
	return impl.StewBook{
		Now: 100,
		Services: []impl.StewService{
			{Name: "api", Version: 21, Image: 3, Want: 4, Down: 1, Over: 2, Next: 30, Per: 10, Least: 2, Most: 6, Load: 35, Cool: 2},
			{Name: "db", Version: 22, Gone: true, Image: 1, Want: 2, Over: 1, Next: 4},
			{Name: "eve", Version: 23, Gone: true, Image: 1, Want: 2, Over: 1, Next: 5},
			{Name: "web", Version: 24, Image: 2, Want: 3, Down: 1, Over: 1, Next: 12},
		},
		Copies: []impl.StewCopy{
			{Service: "api", Number: 1, Version: 31, Image: 3, State: impl.StewReady, Berth: "a"},
			{Service: "api", Number: 2, Version: 32, Image: 3, State: impl.StewReady, Berth: "b"},
			{Service: "api", Number: 5, Version: 33, Image: 2, State: impl.StewReady, Berth: "b"},
			{Service: "api", Number: 9, Version: 34, Image: 3, State: impl.StewReady, Berth: "a"},
			{Service: "api", Number: 12, Version: 35, Image: 3, State: impl.StewFailed, Berth: "a"},
			{Service: "api", Number: 13, Version: 36, Image: 3, State: impl.StewReady, Ending: true, Berth: "a"},
			{Service: "eve", Number: 1, Version: 41, Image: 1, State: impl.StewReady, Berth: "a"},
			{Service: "eve", Number: 2, Version: 42, Image: 1, State: impl.StewWaiting},
			{Service: "eve", Number: 4, Version: 43, Image: 1, State: impl.StewReady, Ending: true, Berth: "b"},
			{Service: "web", Number: 1, Version: 51, Image: 2, State: impl.StewReady, Berth: "a"},
			{Service: "web", Number: 2, Version: 52, Image: 2, State: impl.StewReady, Berth: "a"},
			{Service: "web", Number: 3, Version: 53, Image: 2, State: impl.StewReady, Berth: "b"},
		},
		Berths: []impl.StewBerth{{Name: "a"}, {Name: "b", Drain: true}},
	}
}

// Places of port's services.
const (
	portAPI = 0
	portDB  = 1
	portEve = 2
	portWeb = 3
)

func serviceOf(b impl.StewBook, name string) (impl.StewService, bool) {
	for _, s := range b.Services {
		if s.Name == name {
			return s, true
		}
	}
	return impl.StewService{}, false
}

// placeOf is the place of a copy, or -1.
func placeOf(b impl.StewBook, service string, number int) int {
	for i, c := range b.Copies {
		if c.Service == service && c.Number == number {
			return i
		}
	}
	return -1
}

// asked is a, of a steward who saw the service and the copies with these numbers as they are in b.
func asked(b impl.StewBook, service string, a impl.StewAct, numbers ...int) impl.StewAct {
	a.Service = service
	s, _ := serviceOf(b, service)
	a.Seen = s.Version
	a.Ends = nil
	for _, n := range numbers {
		e := impl.StewEnd{Number: n, Seen: 1}
		if at := placeOf(b, service, n); at >= 0 {
			e.Seen = b.Copies[at].Version
		}
		a.Ends = append(a.Ends, e)
	}
	return a
}

// sameBook holds books against each other; the empty and the nil list are the same.
func sameBook(b, c impl.StewBook) bool {
	return reflect.DeepEqual(copyBook(b), copyBook(c))
}

// scribble writes over all of the book's lists, spare room included.
func scribble(b impl.StewBook) {
	for i := range cap(b.Services) {
		b.Services[:cap(b.Services)][i] = impl.StewService{Name: "scribble"}
	}
	for i := range cap(b.Copies) {
		b.Copies[:cap(b.Copies)][i] = impl.StewCopy{Service: "scribble"}
	}
	for i := range cap(b.Berths) {
		b.Berths[:cap(b.Berths)][i] = impl.StewBerth{Name: "scribble"}
	}
}

// applied calls StewApply, and fails if an argument is changed by the call or by writing into the answer.
func applied(t *testing.T, name string, b impl.StewBook, a impl.StewAct) (impl.StewBook, int) {
	t.Helper()
	short, whole := roomy(b)
	ends := append(append([]impl.StewEnd(nil), a.Ends...), impl.StewEnd{Number: -1}, impl.StewEnd{Number: -2})
	wasBook, wasEnds := copyBook(whole), append([]impl.StewEnd(nil), ends...)
	a.Ends = ends[:len(ends)-2]
	got, code := impl.StewApply(short, a)
	kept := copyBook(got)
	if !reflect.DeepEqual(wasBook, whole) || !reflect.DeepEqual(wasEnds, ends) {
		t.Errorf("%s: an argument is changed", name)
	}
	scribble(got)
	if !reflect.DeepEqual(wasBook, whole) || !reflect.DeepEqual(wasEnds, ends) {
		t.Errorf("%s: the answer shares memory with an argument", name)
	}
	return kept, code
}

// randomBook is a valid book with few numbers, so that limits and equal things are often met.
func randomBook(r *rand.Rand) impl.StewBook {
	b := impl.StewBook{Now: 60 + r.Intn(10), Berths: []impl.StewBerth{{Name: "a"}, {Name: "b", Drain: r.Intn(2) == 0}}}
	for _, name := range []string{"api", "db", "web"} {
		s := impl.StewService{Name: name, Version: 1 + r.Intn(50), Gone: r.Intn(6) == 0, Image: 1 + r.Intn(2),
			Want: r.Intn(5), Down: r.Intn(3), Over: r.Intn(3), Next: 1}
		if s.Down == 0 && s.Over == 0 {
			s.Over = 1
		}
		if r.Intn(2) == 0 {
			s.Per, s.Least, s.Load, s.Cool = 1+r.Intn(20), r.Intn(3), r.Intn(100), r.Intn(impl.StewCool+1)
			s.Most = s.Least + r.Intn(4)
		}
		for range r.Intn(7) {
			b.Copies = append(b.Copies, randomCopy(r, name, s.Next))
			s.Next += 1 + r.Intn(2)
		}
		b.Services = append(b.Services, s)
	}
	return b
}

func randomCopy(r *rand.Rand, service string, number int) impl.StewCopy {
	c := impl.StewCopy{Service: service, Number: number, Version: 1 + r.Intn(50), Image: 1 + r.Intn(2),
		State: impl.StewReady, Ending: r.Intn(6) == 0, Berth: []string{"a", "b"}[r.Intn(2)]}
	if r.Intn(3) == 0 {
		c.State = 1 + r.Intn(4)
	}
	if c.State == impl.StewWaiting {
		c.Berth = ""
	}
	return c
}

// randomAct is an act as a steward who sees b may ask for it, or one that is somewhat off.
func randomAct(r *rand.Rand, b impl.StewBook) impl.StewAct {
	name := []string{"api", "db", "web"}[r.Intn(3)]
	var numbers []int
	var a impl.StewAct
	if r.Intn(2) == 0 {
		for _, c := range b.Copies {
			if c.Service == name && r.Intn(3) == 0 {
				numbers = append(numbers, c.Number)
			}
		}
	}
	if r.Intn(2) == 0 {
		a.Create = r.Intn(4)
	}
	if r.Intn(3) == 0 {
		a.Scale, a.Want, a.Cool = true, r.Intn(6), r.Intn(impl.StewCool+1)
	}
	if r.Intn(8) == 0 {
		a, numbers = impl.StewAct{Drop: true}, nil
	}
	a = asked(b, name, a, numbers...)
	if r.Intn(10) == 0 {
		spoil(r, &a)
	}
	return a
}

func spoil(r *rand.Rand, a *impl.StewAct) {
	switch r.Intn(6) {
	case 0:
		a.Seen++
	case 1:
		a.Service += "x"
	case 2:
		a.Want++
	case 3:
		a.Drop = true
	case 4:
		a.Ends = append(a.Ends, impl.StewEnd{Number: r.Intn(12), Seen: r.Intn(50)})
	case 5:
		for i := range a.Ends {
			a.Ends[i].Seen += r.Intn(2)
		}
	}
}
