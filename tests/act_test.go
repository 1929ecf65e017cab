package tests

import (
	"math"
	"math/rand"
	"strconv"
	"testing"

	"loop.example/wharfsteward/impl"
)

// checkApply holds the code against want, and the book against what chapter 4 says of that code.
func checkApply(t *testing.T, title string, b impl.StewBook, a impl.StewAct, want int) impl.StewBook {
	t.Helper()
	got, code := applied(t, title, b, a)
	if code != want {
		t.Errorf("%s: code %d, want %d", title, code, want)
		return got
	}
	after := b
	switch want {
	case 0:
		after = modelDone(b, a)
		if !impl.StewValid(got) {
			t.Errorf("%s: the book is not valid behind the act", title)
		}
		if got.Now != b.Now+1 {
			t.Errorf("%s: Now is %d behind %d", title, got.Now, b.Now)
		}
	case 1:
		after = impl.StewBook{}
	}
	if !sameBook(got, after) {
		t.Errorf("%s: the book is\n%+v, want\n%+v", title, got, after)
	}
	return got
}

// try is an act in port, altered by change, and the code that it gives.
type try struct {
	name    string
	alter   func(b *impl.StewBook)
	service string
	act     impl.StewAct
	ends    []int
	code    int
}

func checkTries(t *testing.T, tries []try) {
	t.Helper()
	for _, c := range tries {
		b := port()
		if c.alter != nil {
			c.alter(&b)
		}
		checkApply(t, c.name, b, asked(b, c.service, c.act, c.ends...), c.code)
	}
}

func TestActsThatAreDone(t *testing.T) {
	checkTries(t, []try{
		{"nothing asked for", nil, "web", impl.StewAct{}, nil, 0},
		{"nothing asked for of one that is gone", nil, "eve", impl.StewAct{}, nil, 0},
		{"create", nil, "web", impl.StewAct{Create: 1}, nil, 0},
		{"create in the midst of the copies", nil, "api", impl.StewAct{Create: 1}, nil, 0},
		{"end a ready one", nil, "web", impl.StewAct{}, []int{2}, 0},
		{"end one that failed", nil, "api", impl.StewAct{}, []int{12}, 0},
		{"end a ready one and one that failed", nil, "api", impl.StewAct{}, []int{2, 12}, 0},
		{"end all of one that is gone", nil, "eve", impl.StewAct{}, []int{1, 2}, 0},
		{"scale", nil, "api", impl.StewAct{Scale: true, Want: 6, Cool: 1}, nil, 0},
		{"scale to the same", nil, "api", impl.StewAct{Scale: true, Want: 4, Cool: 2}, nil, 0},
		{"scale one that is gone", func(b *impl.StewBook) { b.Services[portAPI].Gone = true }, "api", impl.StewAct{Scale: true, Want: 2}, nil, 0},
		{"drop", nil, "db", impl.StewAct{Drop: true}, nil, 0},
		{"end, scale and create", nil, "api", impl.StewAct{Scale: true, Want: 5, Create: 4}, []int{2, 12}, 0},
	})
}

func TestWhatAnActTouches(t *testing.T) {
	b := port()
	got := checkApply(t, "all at once", b, asked(b, "api", impl.StewAct{Scale: true, Want: 5, Cool: 3, Create: 2}, 5, 12), 0)
	want := port()
	want.Now = 101
	want.Services[portAPI] = impl.StewService{Name: "api", Version: 101, Image: 3, Want: 5, Down: 1, Over: 2, Next: 32, Per: 10, Least: 2, Most: 6, Load: 35, Cool: 3}
	want.Copies[2].Ending, want.Copies[2].Version = true, 101
	want.Copies[4].Ending, want.Copies[4].Version = true, 101
	rest := append([]impl.StewCopy(nil), want.Copies[6:]...)
	want.Copies = append(want.Copies[:6:6],
		impl.StewCopy{Service: "api", Number: 30, Version: 101, Image: 3, State: impl.StewWaiting},
		impl.StewCopy{Service: "api", Number: 31, Version: 101, Image: 3, State: impl.StewWaiting})
	want.Copies = append(want.Copies, rest...)
	if !sameBook(got, want) {
		t.Errorf("got\n%+v, want\n%+v", got, want)
	}
}

func TestTheFirstCopiesOfAService(t *testing.T) {
	for at, name := range []string{"api", "eve", "web"} {
		b := port()
		b.Copies = nil
		for i := range b.Services {
			s := &b.Services[i]
			s.Gone, s.Next = false, 9
			if s.Name != name {
				b.Copies = append(b.Copies, impl.StewCopy{Service: s.Name, Number: 8, Version: 5, Image: 1, State: impl.StewWaiting})
			}
		}
		got := checkApply(t, "first copies of "+name, b, asked(b, name, impl.StewAct{Create: 2}), 0)
		place := []int{0, 2, 3}[at]
		if len(got.Copies) != 5 || got.Copies[place].Service != name || got.Copies[place].Number != 9 || got.Copies[place+1].Number != 10 {
			t.Errorf("first copies of %s: %+v", name, got.Copies)
		}
	}
}

func TestDropTakesTheServiceOut(t *testing.T) {
	b := port()
	got := checkApply(t, "drop", b, asked(b, "db", impl.StewAct{Drop: true}), 0)
	if len(got.Services) != 3 || got.Services[0].Version != 21 || got.Services[1].Version != 23 || got.Services[2].Version != 24 {
		t.Errorf("drop: %+v", got.Services)
	}
	only := impl.StewBook{Now: 1, Services: []impl.StewService{{Name: "s", Version: 1, Gone: true, Image: 1, Over: 1, Next: 1}}}
	got = checkApply(t, "drop the only one", only, asked(only, "s", impl.StewAct{Drop: true}), 0)
	if got.Now != 2 || len(got.Services) != 0 {
		t.Errorf("drop the only one: %+v", got)
	}
}

func TestCode1(t *testing.T) {
	for _, c := range []change{
		{"now", func(b *impl.StewBook) { b.Now = 52 }},
		{"now below 0", func(b *impl.StewBook) { b.Now = -1 }},
		{"another service's image", func(b *impl.StewBook) { b.Services[portDB].Image = 0 }},
		{"copies turned round", func(b *impl.StewBook) { b.Copies[6], b.Copies[7] = b.Copies[7], b.Copies[6] }},
		{"a berth's name", func(b *impl.StewBook) { b.Berths[1].Name = "" }},
		{"no services", func(b *impl.StewBook) { b.Services = nil }},
		{"too many copies", func(b *impl.StewBook) { *b = crowd(1, impl.StewMaxCopies+1, 0) }},
	} {
		b := port()
		c.do(&b)
		checkApply(t, c.name, b, asked(port(), "web", impl.StewAct{Create: 1}), 1)
		checkApply(t, c.name+", and a wrong act", b, impl.StewAct{Create: -1}, 1)
	}
}

func TestCode2(t *testing.T) {
	follows := func(b *impl.StewBook) { b.Services[portAPI].Least, b.Services[portAPI].Most = 0, 10 }
	tries := []try{
		{"want without scale", nil, "web", impl.StewAct{Want: 3}, nil, 2},
		{"want below 0 without scale", nil, "web", impl.StewAct{Want: -1}, nil, 2},
		{"cool without scale", nil, "web", impl.StewAct{Cool: 1}, nil, 2},
		{"cool below 0 without scale", nil, "web", impl.StewAct{Cool: -1}, nil, 2},
		{"want and cool without scale", nil, "web", impl.StewAct{Want: 3, Cool: 1}, nil, 2},
		{"drop with create", nil, "db", impl.StewAct{Drop: true, Create: 1}, nil, 2},
		{"drop with scale", nil, "db", impl.StewAct{Drop: true, Scale: true}, nil, 2},
		{"drop with ends", nil, "db", impl.StewAct{Drop: true}, []int{1}, 2},
		{"drop with want", nil, "db", impl.StewAct{Drop: true, Want: 1}, nil, 2},
		{"ends out of order", nil, "api", impl.StewAct{}, []int{12, 2}, 2},
		{"the last ends out of order", nil, "eve", impl.StewAct{}, []int{1, 3, 2}, 2},
		{"an end again", nil, "api", impl.StewAct{}, []int{12, 12}, 2},
		{"an end again, not adjoining", nil, "api", impl.StewAct{}, []int{2, 12, 2}, 2},
		{"ends in order", nil, "api", impl.StewAct{}, []int{2, 12}, 0},
	}
	for n, code := range map[int]int{math.MinInt: 2, -1: 2, 0: 0, 10: 0, 11: 2, math.MaxInt: 2} {
		tries = append(tries, try{"scale to " + strconv.Itoa(n), follows, "api", impl.StewAct{Scale: true, Want: n}, nil, code})
	}
	for n, code := range map[int]int{math.MinInt: 2, -1: 2, 0: 0, 3: 0, 4: 2, math.MaxInt: 2} {
		tries = append(tries, try{"cool " + strconv.Itoa(n), follows, "api", impl.StewAct{Scale: true, Want: 3, Cool: n}, nil, code})
	}
	roomiest := func(b *impl.StewBook) { b.Copies, b.Services[portWeb].Want, b.Services[portWeb].Over = nil, 10, 10 }
	for n, code := range map[int]int{math.MinInt: 2, -1: 2, 0: 0, 1: 0, 20: 0, 21: 2, math.MaxInt: 2} {
		tries = append(tries, try{"create " + strconv.Itoa(n), roomiest, "web", impl.StewAct{Create: n}, nil, code})
	}
	checkTries(t, tries)
}

func TestHowManyEnds(t *testing.T) {
	b := crowd(1, impl.StewMaxCopies, 0)
	var numbers []int
	for n := range impl.StewMaxCopies {
		numbers = append(numbers, n+1)
	}
	got := checkApply(t, "200 ends", b, asked(b, "s0", impl.StewAct{}, numbers...), 0)
	if n := impl.StewCountOf(got, "s0"); n != (impl.StewCount{Ending: impl.StewMaxCopies}) {
		t.Errorf("200 ends: %+v", n)
	}
	checkApply(t, "201 ends", b, asked(b, "s0", impl.StewAct{}, append(numbers, 201)...), 2)
	b = crowd(1, impl.StewMaxCopies-1, 0)
	checkApply(t, "200 ends, one of which is not there", b, asked(b, "s0", impl.StewAct{}, numbers...), 3)
}

func TestCode3(t *testing.T) {
	tries := []try{
		{"an end that is not there", nil, "web", impl.StewAct{}, []int{4}, 3},
		{"the first of the ends", nil, "web", impl.StewAct{}, []int{0, 1}, 3},
		{"the last of the ends", nil, "web", impl.StewAct{}, []int{1, 11}, 3},
		{"another service's number", nil, "web", impl.StewAct{}, []int{12}, 3},
		{"numbers far off", nil, "web", impl.StewAct{}, []int{math.MinInt, math.MaxInt}, 3},
		{"an end of a service without copies", nil, "db", impl.StewAct{}, []int{1}, 3},
	}
	for _, service := range []string{"", "a", "b", "ap", "apia", "zz", "API", name(50000), "\xff"} {
		for _, a := range []impl.StewAct{{}, {Create: 1}, {Scale: true}, {Drop: true}} {
			tries = append(tries, try{"no service " + strconv.Quote(service[:min(9, len(service))]), nil, service, a, nil, 3})
		}
	}
	checkTries(t, tries)
	checkApply(t, "an empty book", impl.StewBook{}, impl.StewAct{Service: "s"}, 3)
	checkApply(t, "nothing in an empty book", impl.StewBook{}, impl.StewAct{}, 3)
}

func TestCode4(t *testing.T) {
	b := port()
	for _, a := range []impl.StewAct{{}, {Create: 1}, {Scale: true, Want: 4}} {
		for _, seen := range []int{math.MinInt, -1, 0, 20, 22, 100, 101, math.MaxInt} {
			late := asked(b, "api", a, 2, 12)
			late.Seen = seen
			checkApply(t, "service seen as "+strconv.Itoa(seen), b, late, 4)
		}
		for at := range 2 {
			for _, by := range []int{-1, 1} {
				late := asked(b, "api", a, 2, 12)
				late.Ends[at].Seen += by
				checkApply(t, "end seen otherwise", b, late, 4)
			}
		}
	}
	late := asked(b, "api", impl.StewAct{}, 2, 12)
	late.Ends[0].Seen, late.Ends[1].Seen = late.Ends[1].Seen, late.Ends[0].Seen
	checkApply(t, "versions turned round", b, late, 4)
	late = asked(b, "db", impl.StewAct{Drop: true})
	late.Seen--
	checkApply(t, "a late drop", b, late, 4)
}

func TestCode5(t *testing.T) {
	fewer := func(b *impl.StewBook) { b.Copies[0].State = impl.StewStarting }
	checkTries(t, []try{
		{"an end that is ending", nil, "api", impl.StewAct{}, []int{13}, 5},
		{"an end that is ending, of one that is gone", nil, "eve", impl.StewAct{}, []int{4}, 5},
		{"all of one that is gone, one of them ending", nil, "eve", impl.StewAct{}, []int{1, 2, 4}, 5},
		{"a ready one with too few others", fewer, "api", impl.StewAct{}, []int{2}, 5},
		{"one that is not ready beside", fewer, "api", impl.StewAct{}, []int{1, 12}, 0},
		{"two, each of which may end", nil, "web", impl.StewAct{}, []int{1, 2}, 5},
		{"two, not adjoining", nil, "api", impl.StewAct{}, []int{1, 9}, 5},
		{"a ready one behind one that is not", fewer, "api", impl.StewAct{}, []int{1, 9}, 5},
		{"all of them", nil, "web", impl.StewAct{}, []int{1, 2, 3}, 5},
		{"two with two down", func(b *impl.StewBook) { b.Services[portWeb].Down = 2 }, "web", impl.StewAct{}, []int{1, 3}, 0},
		{"three with two down", func(b *impl.StewBook) { b.Services[portWeb].Down = 2 }, "web", impl.StewAct{}, []int{1, 2, 3}, 5},
		{"all of them with down above want", func(b *impl.StewBook) { b.Services[portWeb].Down = 9 }, "web", impl.StewAct{}, []int{1, 2, 3}, 0},
		{"all of them when gone", func(b *impl.StewBook) { b.Services[portWeb].Gone = true }, "web", impl.StewAct{}, []int{1, 2, 3}, 0},
		{"two with a want of 1", func(b *impl.StewBook) { b.Services[portWeb].Want, b.Services[portWeb].Down = 1, 0 }, "web", impl.StewAct{}, []int{1, 2}, 0},
		{"created ones are not ready", nil, "web", impl.StewAct{Create: 2}, []int{1, 2}, 5},
	})
}

func TestEndsGoByTheWantThatWas(t *testing.T) {
	checkTries(t, []try{
		{"two, and a want of 2 less", nil, "api", impl.StewAct{Scale: true, Want: 2}, []int{1, 2}, 5},
		{"one, and a want of 2 more", nil, "api", impl.StewAct{Scale: true, Want: 6}, []int{2}, 0},
		{"three of a want of 2, and a want of 6", func(b *impl.StewBook) { b.Services[portAPI].Want = 2 }, "api", impl.StewAct{Scale: true, Want: 6}, []int{1, 2, 5}, 0},
		{"four of a want of 2, and a want of 2", func(b *impl.StewBook) { b.Services[portAPI].Want = 2 }, "api", impl.StewAct{Scale: true, Want: 2}, []int{1, 2, 5, 9}, 5},
	})
}

func TestCode6OfCreate(t *testing.T) {
	checkTries(t, []try{ // api has 5 that are live, of 6; web has 3 of 4
		{"as many as there may be", nil, "api", impl.StewAct{Create: 1}, nil, 0},
		{"one more", nil, "api", impl.StewAct{Create: 2}, nil, 6},
		{"behind an end", nil, "api", impl.StewAct{Create: 2}, []int{12}, 0},
		{"behind an end, one more", nil, "api", impl.StewAct{Create: 3}, []int{12}, 6},
		{"behind two ends", nil, "api", impl.StewAct{Create: 3}, []int{1, 12}, 0},
		{"behind two ends, one more", nil, "api", impl.StewAct{Create: 4}, []int{1, 12}, 6},
		{"behind scale", nil, "api", impl.StewAct{Create: 3, Scale: true, Want: 6}, nil, 0},
		{"behind scale, one more", nil, "api", impl.StewAct{Create: 4, Scale: true, Want: 6}, nil, 6},
		{"behind scale to less", nil, "api", impl.StewAct{Create: 1, Scale: true, Want: 3}, nil, 6},
		{"behind scale and end", nil, "api", impl.StewAct{Create: 1, Scale: true, Want: 3}, []int{12}, 0},
		{"of a service that is gone", func(b *impl.StewBook) { b.Services[portWeb].Gone = true }, "web", impl.StewAct{Create: 1}, nil, 6},
		{"of a service that is gone and empty", nil, "db", impl.StewAct{Create: 1}, nil, 6},
		{"none with too many live", func(b *impl.StewBook) { b.Services[portWeb].Want = 0 }, "web", impl.StewAct{}, []int{1}, 0},
		{"one with too many live", func(b *impl.StewBook) { b.Services[portWeb].Want = 0 }, "web", impl.StewAct{Create: 1}, []int{1}, 6},
	})
}

func TestCode6OfScale(t *testing.T) {
	tries := []try{
		{"no per", nil, "web", impl.StewAct{Scale: true, Want: 3}, nil, 6},
		{"no per and a want of 0", nil, "web", impl.StewAct{Scale: true}, nil, 6},
		{"no per, gone", nil, "eve", impl.StewAct{Scale: true}, nil, 6},
	}
	for want, code := range []int{6, 6, 0, 0, 0, 0, 0, 6, 6, 6, 6} {
		tries = append(tries, try{"want " + strconv.Itoa(want), nil, "api", impl.StewAct{Scale: true, Want: want}, nil, code})
	}
	checkTries(t, tries)
}

func TestCode6OfDrop(t *testing.T) {
	checkTries(t, []try{
		{"gone, no copies", nil, "db", impl.StewAct{Drop: true}, nil, 0},
		{"gone, with copies", nil, "eve", impl.StewAct{Drop: true}, nil, 6},
		{"gone, with an ending copy", func(b *impl.StewBook) { b.Copies = append(b.Copies[:6:6], b.Copies[8:]...) }, "eve", impl.StewAct{Drop: true}, nil, 6},
		{"gone, with a waiting copy", func(b *impl.StewBook) { b.Copies = b.Copies[7:8] }, "eve", impl.StewAct{Drop: true}, nil, 6},
		{"gone, copies of others", func(b *impl.StewBook) { b.Copies = append(b.Copies[:6:6], b.Copies[9:]...) }, "eve", impl.StewAct{Drop: true}, nil, 0},
		{"not gone, with copies", nil, "web", impl.StewAct{Drop: true}, nil, 6},
		{"not gone, no copies", func(b *impl.StewBook) { b.Copies = nil }, "web", impl.StewAct{Drop: true}, nil, 6},
	})
}

func TestCode7(t *testing.T) {
	lastNow := func(b *impl.StewBook) { b.Now = impl.StewMaxNumber }
	next := func(n int) func(b *impl.StewBook) {
		return func(b *impl.StewBook) { b.Services[portAPI].Next = n }
	}
	checkTries(t, []try{
		{"the last change", func(b *impl.StewBook) { b.Now = impl.StewMaxNumber - 1 }, "api", impl.StewAct{Create: 1}, []int{12}, 0},
		{"nothing asked for, no version left", lastNow, "api", impl.StewAct{}, nil, 7},
		{"create, no version left", lastNow, "api", impl.StewAct{Create: 1}, nil, 7},
		{"end, no version left", lastNow, "api", impl.StewAct{}, []int{12}, 7},
		{"scale, no version left", lastNow, "api", impl.StewAct{Scale: true, Want: 3}, nil, 7},
		{"drop, no version left", lastNow, "db", impl.StewAct{Drop: true}, nil, 7},
		{"the last number but one", next(impl.StewMaxNumber - 1), "api", impl.StewAct{Create: 1}, nil, 0},
		{"the last number", next(impl.StewMaxNumber), "api", impl.StewAct{Create: 1}, nil, 7},
		{"two of the last numbers", next(impl.StewMaxNumber - 2), "api", impl.StewAct{Create: 2}, []int{12}, 0},
		{"two of the last number but one", next(impl.StewMaxNumber - 1), "api", impl.StewAct{Create: 2}, []int{12}, 7},
		{"no number left, but none created", next(impl.StewMaxNumber), "api", impl.StewAct{}, []int{12}, 0},
		{"as many copies as there may be", filled(impl.StewMaxCopies - 2), "api", impl.StewAct{Create: 2}, []int{12}, 0},
		{"one copy more", filled(impl.StewMaxCopies - 1), "api", impl.StewAct{Create: 2}, []int{12}, 7},
		{"full", filled(impl.StewMaxCopies), "api", impl.StewAct{Create: 1}, nil, 7},
		{"full, but none created", filled(impl.StewMaxCopies), "api", impl.StewAct{}, []int{12}, 0},
	})
}

// filled puts copies of web into the book until there are so many.
func filled(copies int) func(b *impl.StewBook) {
	return func(b *impl.StewBook) {
		b.Services[portWeb].Next = 500
		for n := 100; len(b.Copies) < copies; n++ {
			b.Copies = append(b.Copies, impl.StewCopy{Service: "web", Number: n, Version: 1, Image: 1, State: impl.StewWaiting})
		}
	}
}

// ground is one reason to refuse an act that would else be done.
type ground struct {
	name string
	code int
	set  func(b *impl.StewBook, a *impl.StewAct)
}

func grounds() []ground {
	return []ground{
		{"no valid service", 1, func(b *impl.StewBook, a *impl.StewAct) { b.Services[portWeb].Image = 0 }},
		{"no valid now", 1, func(b *impl.StewBook, a *impl.StewAct) { b.Now = impl.StewMaxNumber + 1 }},
		{"create above its bound", 2, func(b *impl.StewBook, a *impl.StewAct) { a.Create = 21 }},
		{"cool above its bound", 2, func(b *impl.StewBook, a *impl.StewAct) { a.Cool = 4 }},
		{"want without scale", 2, func(b *impl.StewBook, a *impl.StewAct) { a.Scale = false }},
		{"drop beside the rest", 2, func(b *impl.StewBook, a *impl.StewAct) { a.Drop = true }},
		{"an end twice", 2, func(b *impl.StewBook, a *impl.StewAct) { a.Ends = append(a.Ends, a.Ends[len(a.Ends)-1]) }},
		{"no such service", 3, func(b *impl.StewBook, a *impl.StewAct) { a.Service = "nope" }},
		{"no such copy", 3, func(b *impl.StewBook, a *impl.StewAct) { a.Ends = append(a.Ends, impl.StewEnd{Number: 29, Seen: 1}) }},
		{"service seen late", 4, func(b *impl.StewBook, a *impl.StewAct) { a.Seen-- }},
		{"copy seen late", 4, func(b *impl.StewBook, a *impl.StewAct) { a.Ends[len(a.Ends)-1].Seen-- }},
		{"two of the ready", 5, func(b *impl.StewBook, a *impl.StewAct) { a.Ends = asked(*b, "api", *a, 1, 2, 12).Ends }},
		{"one that is ending", 5, func(b *impl.StewBook, a *impl.StewAct) { a.Ends = asked(*b, "api", *a, 12, 13).Ends }},
		{"too many live", 6, func(b *impl.StewBook, a *impl.StewAct) { a.Create = 9 }},
		{"want above most", 6, func(b *impl.StewBook, a *impl.StewAct) { b.Services[portAPI].Most = 3 }},
		{"want below least", 6, func(b *impl.StewBook, a *impl.StewAct) { b.Services[portAPI].Least = 5 }},
		{"no version left", 7, func(b *impl.StewBook, a *impl.StewAct) { b.Now = impl.StewMaxNumber }},
		{"no number left", 7, func(b *impl.StewBook, a *impl.StewAct) { b.Services[portAPI].Next = impl.StewMaxNumber }},
		{"no room for copies", 7, func(b *impl.StewBook, a *impl.StewAct) { filled(impl.StewMaxCopies)(b) }},
	}
}

func TestTheFirstCodeIsTold(t *testing.T) {
	b := port()
	base := func() impl.StewAct {
		return asked(b, "api", impl.StewAct{Create: 1, Scale: true, Want: 4, Cool: 1}, 12)
	}
	checkApply(t, "no ground", b, base(), 0)
	for _, first := range grounds() {
		b, a := port(), base()
		first.set(&b, &a)
		checkApply(t, first.name, b, a, first.code)
		for _, second := range grounds() {
			if second.code <= first.code {
				continue
			}
			b, a := port(), base()
			second.set(&b, &a)
			first.set(&b, &a)
			checkApply(t, first.name+" and "+second.name, b, a, first.code)
		}
	}
}

func TestTheFirstCodeIsToldOfADrop(t *testing.T) {
	none := impl.StewAct{Drop: true}
	lastNow := func(b *impl.StewBook) { b.Now = impl.StewMaxNumber }
	checkTries(t, []try{
		{"not there, no version left", lastNow, "zz", none, nil, 3},
		{"with copies, no version left", lastNow, "eve", none, nil, 6},
		{"not gone, no version left", lastNow, "web", none, nil, 6},
	})
	b := port()
	late := asked(b, "web", none)
	late.Seen++
	checkApply(t, "late, not gone", b, late, 4)
	late = asked(b, "eve", none)
	late.Seen++
	checkApply(t, "late, with copies", b, late, 4)
	gone := port()
	gone.Services[portAPI].Gone = true
	checkApply(t, "create of one that is gone, no version left", withNow(gone, impl.StewMaxNumber), asked(gone, "api", impl.StewAct{Create: 1}), 6)
	checkApply(t, "scale without per, no version left", withNow(port(), impl.StewMaxNumber), asked(port(), "web", impl.StewAct{Scale: true}), 6)
}

func withNow(b impl.StewBook, now int) impl.StewBook {
	b.Now = now
	return b
}

func TestActsAgainstTheModel(t *testing.T) {
	r := rand.New(rand.NewSource(4))
	var told [8]int
	for range 20000 {
		b := randomBook(r)
		a := randomAct(r, b)
		_, want := modelApply(b, a)
		checkApply(t, "random act", b, a, want)
		told[want]++
		if t.Failed() {
			t.Fatalf("%+v in %+v", a, b)
		}
	}
	for _, code := range []int{0, 2, 3, 4, 5, 6} {
		if told[code] < 100 {
			t.Errorf("code %d is told %d times alone", code, told[code])
		}
	}
}

// Promise 3.
func TestActsDoNoHarm(t *testing.T) {
	r := rand.New(rand.NewSource(3))
	ended, created := 0, 0
	for range 20000 {
		b := randomBook(r)
		a := randomAct(r, b)
		after, code := impl.StewApply(b, a)
		s, there := serviceOf(after, a.Service)
		if code != 0 || !there {
			continue
		}
		n := impl.StewCountOf(after, a.Service)
		if endsReady(b, a) && !s.Gone && !a.Scale {
			ended++
			if n.Ready < s.Want-s.Down {
				t.Fatalf("%+v leaves %+v of %+v", a, n, s)
			}
		}
		if a.Create > 0 {
			created++
			if n.Live > s.Want+s.Over {
				t.Fatalf("%+v leaves %+v of %+v", a, n, s)
			}
		}
	}
	if ended < 100 || created < 100 {
		t.Errorf("too few: %d ended, %d created", ended, created)
	}
}

func endsReady(b impl.StewBook, a impl.StewAct) bool {
	for _, e := range a.Ends {
		if b.Copies[placeOf(b, a.Service, e.Number)].State == impl.StewReady {
			return true
		}
	}
	return false
}

// Promise 4.
func TestLateActsAreNotDone(t *testing.T) {
	r := rand.New(rand.NewSource(44))
	late := 0
	for range 3000 {
		view := randomBook(r)
		b := view
		for range 1 + r.Intn(3) {
			b, _ = impl.StewApply(b, randomAct(r, b))
		}
		a := randomAct(r, view)
		if modelShape(b, a) || modelAbsent(view, a) || modelLate(view, a) {
			continue
		}
		_, code := impl.StewApply(b, a)
		if modelAbsent(b, a) || modelLate(b, a) {
			late++
			if code != 3 && code != 4 {
				t.Fatalf("%+v is told %d", a, code)
			}
		}
	}
	if late < 100 {
		t.Errorf("%d late acts alone", late)
	}
}

func TestAnActIsDoneOnce(t *testing.T) {
	b := port()
	a := asked(b, "api", impl.StewAct{Create: 1}, 12)
	b = checkApply(t, "at first", b, a, 0)
	checkApply(t, "again", b, a, 4)
	b = port()
	a = asked(b, "db", impl.StewAct{Drop: true})
	b = checkApply(t, "drop at first", b, a, 0)
	checkApply(t, "drop again", b, a, 3)
}

func TestRefusedActsLeaveNoTrace(t *testing.T) {
	b := port()
	was := copyBook(b)
	for _, g := range grounds() {
		a := asked(b, "api", impl.StewAct{Create: 1, Scale: true, Want: 4, Cool: 1}, 12)
		c := copyBook(b)
		g.set(&c, &a)
		impl.StewApply(c, a)
	}
	checkApply(t, "behind refused ones", b, asked(b, "api", impl.StewAct{Create: 1}, 12), 0)
	if !sameBook(b, was) {
		t.Error("the book is changed")
	}
}

func TestActsOfOddSizes(t *testing.T) {
	b := impl.StewBook{}
	for _, a := range []impl.StewAct{{}, {Ends: []impl.StewEnd{}}, {Service: name(100000)}, {Ends: make([]impl.StewEnd, 100000)}} {
		got, code := impl.StewApply(b, a)
		if code != 2 && code != 3 || !sameBook(got, b) {
			t.Errorf("code %d, %+v", code, got)
		}
	}
}
