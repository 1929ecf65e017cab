// Package impl: stewards that see late and do no harm.
package impl

// Limits of books.
const (
	StewMaxName     = 20
	StewMaxServices = 8
	StewMaxWant     = 10
	StewMaxSpare    = 10
	StewMaxCopies   = 200
	StewMaxBerths   = 6
	StewMaxLoad     = 1000000
	StewMaxNumber   = 1000000
	StewCool        = 3
)

// States of copies.
const (
	StewWaiting  = 1
	StewStarting = 2
	StewReady    = 3
	StewFailed   = 4
)

// StewService is a service, and what is wanted of it.
type StewService struct {
	Name    string
	Version int
	Gone    bool
	Image   int
	Want    int
	Down    int
	Over    int
	Next    int
	Per     int
	Least   int
	Most    int
	Load    int
	Cool    int
}

// StewCopy is a copy of a service.
type StewCopy struct {
	Service string
	Number  int
	Version int
	Image   int
	State   int
	Ending  bool
	Berth   string
}

// StewBerth is a machine.
type StewBerth struct {
	Name  string
	Drain bool
}

// StewBook is all that stewards see.
type StewBook struct {
	Now      int
	Services []StewService
	Copies   []StewCopy
	Berths   []StewBerth
}

// Kinds of things that are found by their name.
const (
	serviceThing = 1
	berthThing   = 2
)

// thing is the key under which a thing of a book is found: a service and a
// berth may bear the same name.
type thing struct {
	kind int
	name string
}

// numbered is the key under which a copy of a book is found.
type numbered struct {
	service string
	number  int
}

// StewValid says whether a book is valid.
func StewValid(b StewBook) bool {
	// The sizes come ahead of the lists, so that a book that is far too long
	// is not walked; the copies come last, as they lean on the rest.
	return allHold(b, []func(StewBook) bool{
		nowHolds,
		sizesHold,
		servicesHold,
		berthsHold,
		copiesHold,
	})
}

// allHold says whether each of the checks holds of x; none is asked behind
// one that does not.
func allHold[T any](x T, checks []func(T) bool) bool {
	for _, holds := range checks {
		if !holds(x) {
			return false
		}
	}
	return true
}

func within(n, least, most int) bool {
	return least <= n && n <= most
}

func nowHolds(b StewBook) bool {
	return within(b.Now, 0, StewMaxNumber)
}

func sizesHold(b StewBook) bool {
	return len(b.Services) <= StewMaxServices &&
		len(b.Copies) <= StewMaxCopies &&
		len(b.Berths) <= StewMaxBerths
}

func servicesHold(b StewBook) bool {
	checks := []func(StewService) bool{
		serviceNamed,
		numbersHold,
		spareHolds,
		followHolds,
		stillWithoutPer,
	}
	for i, s := range b.Services {
		if i > 0 && s.Name <= b.Services[i-1].Name {
			return false
		}
		if !within(s.Version, 1, b.Now) || !allHold(s, checks) {
			return false
		}
	}
	return true
}

func serviceNamed(s StewService) bool {
	return isName(s.Name)
}

func numbersHold(s StewService) bool {
	return within(s.Image, 1, StewMaxNumber) &&
		within(s.Next, 1, StewMaxNumber) &&
		within(s.Want, 0, StewMaxWant)
}

func spareHolds(s StewService) bool {
	return within(s.Down, 0, StewMaxSpare) &&
		within(s.Over, 0, StewMaxSpare) &&
		(s.Down != 0 || s.Over != 0)
}

func followHolds(s StewService) bool {
	return within(s.Per, 0, StewMaxLoad) &&
		within(s.Load, 0, StewMaxLoad) &&
		within(s.Least, 0, StewMaxWant) &&
		within(s.Most, 0, StewMaxWant) &&
		s.Least <= s.Most &&
		within(s.Cool, 0, StewCool)
}

// stillWithoutPer: a service that follows no load has nothing to follow by.
func stillWithoutPer(s StewService) bool {
	return s.Per != 0 || s.Least == 0 && s.Most == 0 && s.Load == 0 && s.Cool == 0
}

func berthsHold(b StewBook) bool {
	for i, berth := range b.Berths {
		if i > 0 && berth.Name <= b.Berths[i-1].Name {
			return false
		}
		if !isName(berth.Name) {
			return false
		}
	}
	return true
}

func copiesHold(b StewBook) bool {
	places := placesIn(b)
	for i, c := range b.Copies {
		if i > 0 && !copyAhead(b.Copies[i-1], c) {
			return false
		}
		at, there := places[thing{serviceThing, c.Service}]
		if !there || !copyHolds(c, b.Services[at], b.Now) || !berthFits(c, places) {
			return false
		}
	}
	return true
}

// copyAhead says whether c stands strictly ahead of d in the order of copies.
func copyAhead(c, d StewCopy) bool {
	if c.Service != d.Service {
		return c.Service < d.Service
	}
	return c.Number < d.Number
}

func copyHolds(c StewCopy, s StewService, now int) bool {
	return within(c.Number, 1, s.Next-1) &&
		within(c.Version, 1, now) &&
		within(c.Image, 1, StewMaxNumber) &&
		within(c.State, StewWaiting, StewFailed)
}

func berthFits(c StewCopy, places map[thing]int) bool {
	if c.State == StewWaiting {
		return c.Berth == ""
	}
	_, there := places[thing{berthThing, c.Berth}]
	return there
}

// placesIn tells at which place of its list each service and each berth is.
func placesIn(b StewBook) map[thing]int {
	places := make(map[thing]int, len(b.Services)+len(b.Berths))
	for i, s := range b.Services {
		places[thing{serviceThing, s.Name}] = i
	}
	for i, berth := range b.Berths {
		places[thing{berthThing, berth.Name}] = i
	}
	return places
}

// copyPlaces tells at which place of its list each copy is.
func copyPlaces(b StewBook) map[numbered]int {
	places := make(map[numbered]int, len(b.Copies))
	for i, c := range b.Copies {
		places[numbered{c.Service, c.Number}] = i
	}
	return places
}

// freshBook is b in memory of its own.
func freshBook(b StewBook) StewBook {
	return StewBook{
		Now:      b.Now,
		Services: fresh(b.Services),
		Copies:   fresh(b.Copies),
		Berths:   fresh(b.Berths),
	}
}

// fresh starts from nil, as a copy by cutting the list down to nothing would
// still point into the memory of an empty one.
func fresh[T any](list []T) []T {
	return append([]T(nil), list...)
}

func isName(text string) bool {
	if !within(len(text), 1, StewMaxName) {
		return false
	}
	for i := range len(text) {
		if !nameByte(text[i]) {
			return false
		}
	}
	return true
}

func nameByte(c byte) bool {
	return 'a' <= c && c <= 'z' || '0' <= c && c <= '9' || c == '-'
}
