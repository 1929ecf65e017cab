package tests

import (
	"math"
	"strconv"
	"testing"

	"loop.example/wharfsteward/impl"
)

func checkValid(t *testing.T, name string, b impl.StewBook, want bool) {
	t.Helper()
	if got := impl.StewValid(b); got != want {
		t.Errorf("%s: valid is %v, want %v", name, got, want)
	}
}

func TestOrdinaryBooksAreValid(t *testing.T) {
	checkValid(t, "empty", impl.StewBook{}, true)
	checkValid(t, "empty lists", impl.StewBook{Services: []impl.StewService{}, Copies: []impl.StewCopy{}, Berths: []impl.StewBerth{}}, true)
	checkValid(t, "fleet", fleet(), true)
	checkValid(t, "berths alone", impl.StewBook{Berths: []impl.StewBerth{{Name: "a", Drain: true}}}, true)
	b := fleet()
	b.Copies = nil
	checkValid(t, "no copies", b, true)
	b.Berths = nil
	checkValid(t, "no copies and no berths", b, true)
}

// ranged is a number of a book that must lie in least..most.
type ranged struct {
	name        string
	least, most int
	set         func(b *impl.StewBook, n int)
}

func service(b *impl.StewBook, at int) *impl.StewService { return &b.Services[at] }

func rangesOfServices() []ranged {
	return []ranged{
		{"version of a service", 1, 50, func(b *impl.StewBook, n int) { service(b, webAt).Version = n }},
		{"image of a service", 1, impl.StewMaxNumber, func(b *impl.StewBook, n int) { service(b, webAt).Image = n }},
		{"next", 1, impl.StewMaxNumber, func(b *impl.StewBook, n int) { b.Copies = b.Copies[:3]; service(b, webAt).Next = n }},
		{"want", 0, impl.StewMaxWant, func(b *impl.StewBook, n int) { service(b, webAt).Want = n }},
		{"want of a service that follows", 0, impl.StewMaxWant, func(b *impl.StewBook, n int) { service(b, apiAt).Want = n }},
		{"down beside over", 0, impl.StewMaxSpare, func(b *impl.StewBook, n int) { service(b, webAt).Down = n }},
		{"over beside down", 0, impl.StewMaxSpare, func(b *impl.StewBook, n int) { service(b, webAt).Over = n }},
		{"down alone", 1, impl.StewMaxSpare, func(b *impl.StewBook, n int) { service(b, webAt).Over = 0; service(b, webAt).Down = n }},
		{"over alone", 1, impl.StewMaxSpare, func(b *impl.StewBook, n int) { service(b, webAt).Down = 0; service(b, webAt).Over = n }},
		{"per of a service with a load", 1, impl.StewMaxLoad, func(b *impl.StewBook, n int) { service(b, apiAt).Per = n }},
		{"per of a service with nothing else", 0, impl.StewMaxLoad, func(b *impl.StewBook, n int) { service(b, webAt).Per = n }},
		{"load", 0, impl.StewMaxLoad, func(b *impl.StewBook, n int) { service(b, apiAt).Load = n }},
		{"least", 0, impl.StewMaxWant, func(b *impl.StewBook, n int) {
			service(b, apiAt).Most = impl.StewMaxWant
			service(b, apiAt).Least = n
		}},
		{"most", 0, impl.StewMaxWant, func(b *impl.StewBook, n int) {
			service(b, apiAt).Least = 0
			service(b, apiAt).Most = n
		}},
		{"least and most together", 0, impl.StewMaxWant, func(b *impl.StewBook, n int) {
			service(b, apiAt).Least = n
			service(b, apiAt).Most = n
		}},
		{"least up to most", 0, 6, func(b *impl.StewBook, n int) { service(b, apiAt).Least = n }},
		{"most down to least", 2, impl.StewMaxWant, func(b *impl.StewBook, n int) { service(b, apiAt).Most = n }},
		{"cool", 0, impl.StewCool, func(b *impl.StewBook, n int) { service(b, apiAt).Cool = n }},
	}
}

func rangesOfTheRest() []ranged {
	bare := func(b *impl.StewBook) { b.Services, b.Copies = nil, nil }
	return []ranged{
		{"now of a bare book", 0, impl.StewMaxNumber, func(b *impl.StewBook, n int) { bare(b); b.Now = n }},
		{"now from the last change on", 50, impl.StewMaxNumber, func(b *impl.StewBook, n int) { b.Now = n }},
		{"now from the last change of a service on", 9, impl.StewMaxNumber, func(b *impl.StewBook, n int) { b.Copies = nil; b.Now = n }},
		{"next above the numbers of copies", 12, impl.StewMaxNumber, func(b *impl.StewBook, n int) { service(b, webAt).Next = n }},
		{"number of the last copy", 4, 11, func(b *impl.StewBook, n int) { b.Copies[6].Number = n }},
		{"number of a copy that is alone", 1, 2, func(b *impl.StewBook, n int) { b.Copies[2].Number = n }},
		{"version of a copy", 1, 50, func(b *impl.StewBook, n int) { b.Copies[0].Version = n }},
		{"image of a copy", 1, impl.StewMaxNumber, func(b *impl.StewBook, n int) { b.Copies[0].Image = n }},
		{"state of a copy with a berth", impl.StewStarting, impl.StewFailed, func(b *impl.StewBook, n int) { b.Copies[0].State = n }},
		{"state of a copy without a berth", impl.StewWaiting, impl.StewWaiting, func(b *impl.StewBook, n int) { b.Copies[0].Berth = ""; b.Copies[0].State = n }},
	}
}

func TestRangesOfABook(t *testing.T) {
	for _, r := range append(rangesOfServices(), rangesOfTheRest()...) {
		for _, n := range []int{math.MinInt, r.least - 1, r.least, r.most, r.most + 1, math.MaxInt} {
			b := fleet()
			r.set(&b, n)
			checkValid(t, r.name+" "+strconv.Itoa(n), b, r.least <= n && n <= r.most)
		}
	}
}

func TestNeitherDownNorOver(t *testing.T) {
	b := fleet()
	b.Services[webAt].Down, b.Services[webAt].Over = 0, 0
	checkValid(t, "down and over 0", b, false)
}

func TestPerOfNothing(t *testing.T) {
	still := []change{
		{"least", func(b *impl.StewBook) { b.Services[stillAt].Least = 1 }},
		{"least and most", func(b *impl.StewBook) { b.Services[stillAt].Least = 1; b.Services[stillAt].Most = 1 }},
		{"most", func(b *impl.StewBook) { b.Services[stillAt].Most = 1 }},
		{"load", func(b *impl.StewBook) { b.Services[stillAt].Load = 1 }},
		{"cool", func(b *impl.StewBook) { b.Services[stillAt].Cool = 1 }},
	}
	for i, c := range still {
		b := changed(c)
		checkValid(t, "per 0 with "+c.name, b, false)
		b.Services[stillAt].Per = 1
		checkValid(t, "per 1 with "+c.name, b, i != 0) // a Least of 1 is above a Most of 0
	}
	b := fleet()
	b.Services[apiAt].Per = 0
	checkValid(t, "per taken away", b, false)
	b.Services[apiAt].Least, b.Services[apiAt].Most, b.Services[apiAt].Load, b.Services[apiAt].Cool = 0, 0, 0, 0
	checkValid(t, "per taken away with the rest", b, true)
	b = fleet()
	b.Services[apiAt].Want = 1
	checkValid(t, "want below least", b, true)
}

func TestNames(t *testing.T) {
	names := map[string]bool{
		"": false, "n": true, name(impl.StewMaxName): true, name(impl.StewMaxName + 1): false, name(5000): false,
		"a": true, "z": true, "0": true, "9": true, "-": true, "--": true, "az09-": true, "0a": true,
		"`": false, "{": false, "/": false, ":": false, ",": false, ".": false, "A": false, "Z": false, "_": false,
		" ": false, "a b": false, "a\n": false, "\x00": false, "\x80": false, "\xff": false, "\u00e9": false,
		"a\u0161":              false, // its low byte is that of a letter
		"nnnnnnnnnnnnnnnnnnn{": false, "{nnnn": false, "nn{nn": false,
	}
	for text, want := range names {
		s := impl.StewService{Name: text, Version: 1, Image: 1, Want: 1, Over: 1, Next: 1}
		checkValid(t, "service "+strconv.Quote(text), impl.StewBook{Now: 1, Services: []impl.StewService{s}}, want)
		checkValid(t, "berth "+strconv.Quote(text), impl.StewBook{Berths: []impl.StewBerth{{Name: text}}}, want)
		c := impl.StewCopy{Service: text, Number: 1, Version: 1, Image: 1, State: impl.StewReady, Berth: text}
		s.Next = 2
		b := impl.StewBook{Now: 1, Services: []impl.StewService{s}, Copies: []impl.StewCopy{c}, Berths: []impl.StewBerth{{Name: text}}}
		checkValid(t, "copy of "+strconv.Quote(text), b, want)
	}
}

func TestEachByteOfANameIsAsked(t *testing.T) {
	for c := range 256 {
		want := c >= 'a' && c <= 'z' || c >= '0' && c <= '9' || c == '-'
		text := "n" + string([]byte{byte(c)}) + "n"
		checkValid(t, "berth "+strconv.Quote(text), impl.StewBook{Berths: []impl.StewBerth{{Name: text}}}, want)
	}
}

func TestOrderOfNames(t *testing.T) {
	for _, pair := range []struct {
		first, second string
		want          bool
	}{
		{"a", "b", true}, {"b", "a", false}, {"a", "a", false},
		{"a", "aa", true}, {"aa", "a", false}, {"ab", "b", true}, {"b", "ab", false},
		{"-", "0", true}, {"0", "-", false}, {"9", "a", true}, {"a", "9", false}, {"10", "9", true}, {"9", "10", false},
		{"a-", "a0", true}, {"a-b", "ab", true}, {"ab", "a-b", false},
	} {
		text := pair.first + " " + pair.second
		s := impl.StewService{Version: 1, Image: 1, Want: 1, Over: 1, Next: 2}
		s1, s2 := s, s
		s1.Name, s2.Name = pair.first, pair.second
		checkValid(t, "services "+text, impl.StewBook{Now: 1, Services: []impl.StewService{s1, s2}}, pair.want)
		berths := []impl.StewBerth{{Name: pair.first}, {Name: pair.second}}
		checkValid(t, "berths "+text, impl.StewBook{Berths: berths}, pair.want)
		if !pair.want {
			continue
		}
		c1 := impl.StewCopy{Service: pair.first, Number: 1, Version: 1, Image: 1, State: impl.StewWaiting}
		c2 := c1
		c2.Service = pair.second
		b := impl.StewBook{Now: 1, Services: []impl.StewService{s1, s2}, Copies: []impl.StewCopy{c1, c2}}
		checkValid(t, "copies "+text, b, true)
		b.Copies[0], b.Copies[1] = c2, c1
		checkValid(t, "copies turned round "+text, b, false)
	}
}

func TestOrderAtTheEndOfLists(t *testing.T) {
	for _, c := range []change{
		{"services turned round", func(b *impl.StewBook) {
			b.Copies = nil
			b.Services[1], b.Services[2] = b.Services[2], b.Services[1]
		}},
		{"a service again", func(b *impl.StewBook) { b.Services = append(b.Services, b.Services[webAt]) }},
		{"the first service again", func(b *impl.StewBook) { b.Services = append(b.Services, b.Services[0]) }},
		{"berths turned round", func(b *impl.StewBook) { b.Berths[1], b.Berths[2] = b.Berths[2], b.Berths[1] }},
		{"a berth again", func(b *impl.StewBook) { b.Berths = append(b.Berths, b.Berths[2]) }},
		{"the first berth again, not adjoining", func(b *impl.StewBook) { b.Berths = append(b.Berths, b.Berths[0]) }},
		{"copies of two services turned round", func(b *impl.StewBook) { b.Copies[1], b.Copies[2] = b.Copies[2], b.Copies[1] }},
		{"copies of one service turned round", func(b *impl.StewBook) { b.Copies[5], b.Copies[6] = b.Copies[6], b.Copies[5] }},
		{"the first copies turned round", func(b *impl.StewBook) { b.Copies[0], b.Copies[1] = b.Copies[1], b.Copies[0] }},
		{"a copy again", func(b *impl.StewBook) { b.Copies = append(b.Copies, b.Copies[6]) }},
		{"a number again", func(b *impl.StewBook) { b.Copies[5].Number = 2 }},
		{"the first copy again", func(b *impl.StewBook) { b.Copies = append(b.Copies, b.Copies[0]) }},
	} {
		checkValid(t, c.name, changed(c), false)
	}
}

func TestCopiesOfNoService(t *testing.T) {
	for _, text := range []string{"", "aaa", "apia", "ap", "cd", "zz", "API", "b", name(50000)} {
		b := fleet()
		b.Copies = []impl.StewCopy{{Service: text, Number: 1, Version: 1, Image: 1, State: impl.StewWaiting}}
		checkValid(t, "a copy of a service that is not there: "+strconv.Quote(text), b, false)
	}
	b := fleet()
	b.Services = b.Services[:webAt]
	checkValid(t, "a service taken out", b, false)
	b.Services = nil
	checkValid(t, "all services taken out", b, false)
}

func TestNumbersAreBelowTheirOwnNext(t *testing.T) {
	b := fleet()
	b.Copies[2].Number = 3 // api's Next allows it, db's does not
	checkValid(t, "the next number", b, false)
	b = fleet()
	b.Services[dbAt].Next = 1
	b.Copies = append(b.Copies[:2:2], b.Copies[3:]...)
	checkValid(t, "a next of 1 and no copy", b, true)
}

func TestBerthsByState(t *testing.T) {
	for state := range 6 {
		for _, berth := range []string{"", "a", "b", "web", "c", "aa", "api", "A", " "} {
			b := fleet()
			b.Copies[0].State, b.Copies[0].Berth = state, berth
			there := berth == "a" || berth == "b" || berth == "web"
			want := state == impl.StewWaiting && berth == "" || state > impl.StewWaiting && state <= impl.StewFailed && there
			checkValid(t, "state "+strconv.Itoa(state)+" at "+strconv.Quote(berth), b, want)
			b.Copies[0].Ending = true
			checkValid(t, "ending, state "+strconv.Itoa(state)+" at "+strconv.Quote(berth), b, want)
		}
	}
	b := fleet()
	b.Berths = b.Berths[:2]
	checkValid(t, "a berth that sank", b, false)
}

// crowd is a book with so many services, so many copies of the first of them, and so many berths.
func crowd(services, copies, berths int) impl.StewBook {
	b := impl.StewBook{Now: 1}
	for i := range services {
		b.Services = append(b.Services, impl.StewService{Name: "s" + strconv.Itoa(i), Version: 1, Image: 1, Over: 1, Next: copies + 1})
	}
	for i := range copies {
		b.Copies = append(b.Copies, impl.StewCopy{Service: "s0", Number: i + 1, Version: 1, Image: 1, State: impl.StewWaiting})
	}
	for i := range berths {
		b.Berths = append(b.Berths, impl.StewBerth{Name: "b" + strconv.Itoa(i)})
	}
	return b
}

func TestSizesOfLists(t *testing.T) {
	checkValid(t, "all limits met", crowd(impl.StewMaxServices, impl.StewMaxCopies, impl.StewMaxBerths), true)
	checkValid(t, "a service too many", crowd(impl.StewMaxServices+1, 1, 1), false)
	checkValid(t, "a copy too many", crowd(1, impl.StewMaxCopies+1, 1), false)
	checkValid(t, "a berth too many", crowd(1, 1, impl.StewMaxBerths+1), false)
}

func TestLimitsAreTheDocuments(t *testing.T) {
	got := [9]int{impl.StewMaxName, impl.StewMaxServices, impl.StewMaxWant, impl.StewMaxSpare, impl.StewMaxCopies,
		impl.StewMaxBerths, impl.StewMaxLoad, impl.StewMaxNumber, impl.StewCool}
	if got != [9]int{20, 8, 10, 10, 200, 6, 1000000, 1000000, 3} {
		t.Errorf("limits: %v", got)
	}
	if [4]int{impl.StewWaiting, impl.StewStarting, impl.StewReady, impl.StewFailed} != [4]int{1, 2, 3, 4} {
		t.Error("states")
	}
}

func TestValidHarmsNothing(t *testing.T) {
	use := func(b impl.StewBook) { impl.StewValid(b) }
	unharmed(t, "fleet", fleet(), use)
	unharmed(t, "empty", impl.StewBook{}, use)
	bad := fleet()
	bad.Copies[1], bad.Copies[0] = bad.Copies[0], bad.Copies[1]
	bad.Services[1].Name = "Z"
	unharmed(t, "not valid", bad, use)
}

func TestValidKeepsNothing(t *testing.T) {
	b := fleet()
	for range 3 {
		checkValid(t, "fleet", b, true)
		b.Berths[2].Name = "x"
		checkValid(t, "a berth renamed", b, false)
		b.Berths[2].Name = "web"
	}
}
