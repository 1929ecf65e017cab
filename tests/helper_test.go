package tests

import (
	"reflect"
	"strings"
	"testing"

	"loop.example/wharfsteward/impl"
)

// fleet is an ordinary book: three services (one of which follows its load, one of which is gone), copies in each
// state, and a service and a berth that bear the same name.
func fleet() impl.StewBook {
	return impl.StewBook{
		Now: 50,
		Services: []impl.StewService{
			{Name: "api", Version: 7, Image: 4, Want: 3, Down: 1, Over: 2, Next: 20, Per: 100, Least: 2, Most: 6, Load: 250, Cool: 1},
			{Name: "db", Version: 8, Gone: true, Image: 1, Want: 1, Over: 1, Next: 3},
			{Name: "web", Version: 9, Image: 2, Want: 4, Down: 1, Over: 1, Next: 12},
		},
		Copies: []impl.StewCopy{
			{Service: "api", Number: 1, Version: 10, Image: 4, State: impl.StewReady, Berth: "a"},
			{Service: "api", Number: 19, Version: 11, Image: 3, State: impl.StewReady, Berth: "b"},
			{Service: "db", Number: 2, Version: 12, Image: 1, State: impl.StewReady, Ending: true, Berth: "web"},
			{Service: "web", Number: 1, Version: 13, Image: 1, State: impl.StewFailed, Berth: "a"},
			{Service: "web", Number: 2, Version: 14, Image: 2, State: impl.StewStarting, Berth: "web"},
			{Service: "web", Number: 3, Version: 15, Image: 2, State: impl.StewWaiting},
			{Service: "web", Number: 11, Version: 50, Image: 2, State: impl.StewReady, Berth: "web"},
		},
		Berths: []impl.StewBerth{{Name: "a"}, {Name: "b", Drain: true}, {Name: "web"}},
	}
}

// Places in fleet's lists.
const (
	apiAt   = 0
	dbAt    = 1
	webAt   = 2
	stillAt = webAt // a service with a Per of 0
)

// change is a fleet with one thing altered.
type change struct {
	name string
	do   func(b *impl.StewBook)
}

func changed(c change) impl.StewBook {
	b := fleet()
	c.do(&b)
	return b
}

// copyBook is a book with lists of its own.
func copyBook(b impl.StewBook) impl.StewBook {
	b.Services = append([]impl.StewService(nil), b.Services...)
	b.Copies = append([]impl.StewCopy(nil), b.Copies...)
	b.Berths = append([]impl.StewBerth(nil), b.Berths...)
	return b
}

// roomy is b with spare room behind each list, filled with marks; the second book shows the lists to the end of that
// room.
func roomy(b impl.StewBook) (impl.StewBook, impl.StewBook) {
	whole := copyBook(b)
	for range 3 {
		whole.Services = append(whole.Services, impl.StewService{Name: "mark", Next: -1})
		whole.Copies = append(whole.Copies, impl.StewCopy{Service: "mark", Number: -1})
		whole.Berths = append(whole.Berths, impl.StewBerth{Name: "mark", Drain: true})
	}
	short := whole
	short.Services = whole.Services[:len(b.Services)]
	short.Copies = whole.Copies[:len(b.Copies)]
	short.Berths = whole.Berths[:len(b.Berths)]
	return short, whole
}

// unharmed calls use with b and fails if b, or what lies behind the end of its lists, is another behind it.
func unharmed(t *testing.T, name string, b impl.StewBook, use func(b impl.StewBook)) {
	t.Helper()
	short, whole := roomy(b)
	was := copyBook(whole)
	use(short)
	if !reflect.DeepEqual(was, whole) {
		t.Errorf("%s: the book that was given is changed", name)
	}
}

func name(size int) string {
	return strings.Repeat("n", size)
}
