package tests

import (
	"math"
	"math/rand"
	"reflect"
	"strconv"
	"strings"
	"testing"

	"loop.example/wharfsteward/impl"
)

// befallen calls StewSea, and fails if the book is changed by the call or by writing into the answer.
func befallen(t *testing.T, title string, b impl.StewBook, e impl.StewEvent) (impl.StewBook, int) {
	t.Helper()
	short, whole := roomy(b)
	was := copyBook(whole)
	got, code := impl.StewSea(short, e)
	told := copyBook(got)
	if !reflect.DeepEqual(was, whole) {
		t.Errorf("%s: the book that was given is changed", title)
	}
	scribble(got)
	if !reflect.DeepEqual(was, whole) {
		t.Errorf("%s: the answer shares memory with the book", title)
	}
	return told, code
}

// checkSea holds the code against want, the book against what chapter 6 says of that code, and both against promise 1.
func checkSea(t *testing.T, title string, b impl.StewBook, e impl.StewEvent, want int) impl.StewBook {
	t.Helper()
	got, code := befallen(t, title, b, e)
	if code != want {
		t.Errorf("%s: code %d, want %d", title, code, want)
		return got
	}
	after, _ := modelSea(b, e)
	switch want {
	case 0:
		if !impl.StewValid(got) {
			t.Errorf("%s: the book is not valid behind the event", title)
		}
		if got.Now != b.Now+1 {
			t.Errorf("%s: Now is %d behind %d", title, got.Now, b.Now)
		}
	case 1:
		after = impl.StewBook{}
	default:
		after = b
	}
	if !sameBook(got, after) {
		t.Errorf("%s: the book is\n%+v, want\n%+v", title, got, after)
	}
	return got
}

// moor is a book of which each word tells a thing: a berth is its name (with ! if it is to be drained), a copy is
// service.number:state, the state being w, s, r or f, with the berth's letter behind it, and ! if it is Ending.
func moor(t *testing.T, berths, copies string) impl.StewBook {
	t.Helper()
	b := impl.StewBook{Now: 100}
	for _, word := range strings.Fields(berths) {
		name := strings.TrimSuffix(word, "!")
		b.Berths = append(b.Berths, impl.StewBerth{Name: name, Drain: word != name})
	}
	for i, word := range strings.Fields(copies) {
		name, rest, _ := strings.Cut(word, ".")
		number, state, _ := strings.Cut(rest, ":")
		c := impl.StewCopy{Service: name, Version: 10 + i, Image: 1, Ending: strings.HasSuffix(state, "!")}
		c.Number, _ = strconv.Atoi(number)
		c.State = 1 + strings.Index("wsrf", state[:1])
		c.Berth = strings.TrimSuffix(state[1:], "!")
		b.Copies = append(b.Copies, c)
		if _, there := serviceOf(b, name); !there {
			b.Services = append(b.Services, impl.StewService{Name: name, Version: 5, Image: 1, Want: 3, Down: 1, Over: 1, Next: 500})
		}
	}
	if !impl.StewValid(b) {
		t.Fatalf("%q %q is not valid", berths, copies)
	}
	return b
}

// tellMoor writes the copies as moor reads them, with * behind one whose Version is Now.
func tellMoor(b impl.StewBook) string {
	var words []string
	for _, c := range b.Copies {
		word := c.Service + "." + strconv.Itoa(c.Number) + ":" + "wsrf"[c.State-1:c.State] + c.Berth
		if c.Ending {
			word += "!"
		}
		if c.Version == b.Now {
			word += "*"
		}
		words = append(words, word)
	}
	return strings.Join(words, " ")
}

// ticked is a book ahead of a StewTick, and the copies behind it.
type ticked struct {
	berths, copies, want string
}

func checkTicks(t *testing.T, ticks []ticked) {
	t.Helper()
	for _, c := range ticks {
		title := c.berths + ": " + c.copies
		b := moor(t, c.berths, c.copies)
		got := checkSea(t, title, b, impl.StewEvent{Kind: impl.StewTick}, 0)
		if told := tellMoor(got); told != c.want {
			t.Errorf("%s: %q, want %q", title, told, c.want)
		}
		if !reflect.DeepEqual(got.Services, copyBook(b).Services) || !reflect.DeepEqual(got.Berths, copyBook(b).Berths) {
			t.Errorf("%s: a tick changes more than copies", title)
		}
	}
}

func TestTickTakesEndingCopiesAway(t *testing.T) {
	checkTicks(t, []ticked{
		{"a", "web.1:ra!", ""},
		{"a", "web.1:w!", ""},
		{"a", "web.1:sa!", ""},
		{"a", "web.1:fa!", ""},
		{"a", "web.1:ra web.2:ra! web.3:ra", "web.1:ra web.3:ra"},
		{"a", "web.1:ra! web.2:ra web.3:ra!", "web.2:ra"},
		{"a b", "api.1:ra! api.2:rb db.1:fb! web.1:rb web.2:fa!", "api.2:rb web.1:rb"},
		{"a!", "web.1:ra! web.2:ra", "web.2:ra"},
	})
}

func TestTickMakesStartingCopiesReady(t *testing.T) {
	checkTicks(t, []ticked{
		{"a", "web.1:sa", "web.1:ra*"},
		{"a", "web.1:ra web.2:sa web.3:fa", "web.1:ra web.2:ra* web.3:fa"},
		{"a b", "api.1:sb db.1:sa web.1:ra web.2:sb", "api.1:rb* db.1:ra* web.1:ra web.2:rb*"},
		{"a!", "web.1:sa", "web.1:ra*"},
	})
}

func TestTickGivesBerths(t *testing.T) {
	checkTicks(t, []ticked{
		{"a", "web.1:w", "web.1:sa*"},
		{"a b c", "web.1:w web.2:w web.3:w web.4:w", "web.1:sa* web.2:sb* web.3:sc* web.4:sa*"},
		{"a b", "api.1:w api.7:w db.2:w web.1:w web.9:w", "api.1:sa* api.7:sb* db.2:sa* web.1:sb* web.9:sa*"},
		// the fewest, whatever state those have that stand there, and of whatever service
		{"a b", "web.1:ra web.2:w", "web.1:ra web.2:sb*"},
		{"a b", "web.1:fa web.2:w", "web.1:fa web.2:sb*"},
		{"a b", "web.1:w web.2:fa", "web.1:sb* web.2:fa"},
		{"a b", "api.1:w web.2:ra", "api.1:sb* web.2:ra"},
		{"a b", "api.1:rb web.2:w", "api.1:rb web.2:sa*"},
		{"a b", "api.1:ra api.2:ra api.3:rb web.1:w web.2:w", "api.1:ra api.2:ra api.3:rb web.1:sb* web.2:sa*"},
		{"a b", "api.1:ra api.2:ra api.3:rb web.1:w web.2:w web.3:w", "api.1:ra api.2:ra api.3:rb web.1:sb* web.2:sa* web.3:sb*"},
		{"a b", "api.1:w db.1:ra db.2:ra db.3:ra web.1:w web.2:w web.3:w",
			"api.1:sb* db.1:ra db.2:ra db.3:ra web.1:sb* web.2:sb* web.3:sa*"},
		// of several the first in order
		{"a b c", "web.1:ra web.2:w", "web.1:ra web.2:sb*"},
		{"a b c", "web.1:ra web.2:rb web.3:rb web.4:rc web.5:w", "web.1:ra web.2:rb web.3:rb web.4:rc web.5:sa*"},
		{"a b c", "web.1:ra web.2:ra web.3:rb web.4:rc web.5:w", "web.1:ra web.2:ra web.3:rb web.4:rc web.5:sb*"},
		{"a b c", "web.1:ra web.2:rb web.3:w", "web.1:ra web.2:rb web.3:sc*"},
	})
}

func TestTickLeavesBerthsThatAreToBeDrained(t *testing.T) {
	checkTicks(t, []ticked{
		{"a! b", "web.1:w", "web.1:sb*"},
		{"a! b", "web.1:rb web.2:rb web.3:w web.4:w", "web.1:rb web.2:rb web.3:sb* web.4:sb*"},
		{"a b!", "web.1:ra web.2:ra web.3:w", "web.1:ra web.2:ra web.3:sa*"},
		{"a b! c", "web.1:ra web.2:w web.3:w", "web.1:ra web.2:sc* web.3:sa*"},
		{"a!", "web.1:w", "web.1:w"},
		{"a! b! c!", "web.1:ra web.2:w web.3:w", "web.1:ra web.2:w web.3:w"},
		{"a! b!", "web.1:ra! web.2:sb web.3:w web.4:w!", "web.2:rb* web.3:w"},
		{"", "web.1:w", "web.1:w"},
		{"", "api.1:w! web.1:w web.2:w!", "web.1:w"},
	})
}

func TestTheOrderWithinATick(t *testing.T) {
	checkTicks(t, []ticked{
		{"a b", "web.1:ra! web.2:sa web.3:w", "web.2:ra* web.3:sb*"},
		{"a b", "web.1:w web.2:sa web.3:ra!", "web.1:sb* web.2:ra*"},
		// one that goes takes no room, wherever it stands in the order
		{"a b", "web.1:ra! web.2:ra! web.3:rb web.4:w", "web.3:rb web.4:sa*"},
		{"a b", "api.1:w web.1:ra! web.2:ra! web.3:rb", "api.1:sa* web.3:rb"},
		{"a b", "web.1:w web.2:fa! web.3:sa! web.4:rb", "web.1:sa* web.4:rb"},
		{"a b", "web.1:w! web.2:w web.3:w! web.4:w", "web.2:sa* web.4:sb*"},
		// one that becomes ready does
		{"a b", "web.1:sa web.2:w", "web.1:ra* web.2:sb*"},
		{"a b", "web.1:w web.2:sa", "web.1:sb* web.2:ra*"},
		// one that starts in this tick is not ready in it, nor is one that starts and ends
		{"a", "web.1:w web.2:w", "web.1:sa* web.2:sa*"},
		{"a", "web.1:sa! web.2:sa", "web.2:ra*"},
		{"a b c!", "api.1:fc api.2:sa! api.3:w db.1:sb db.2:w! web.1:rc! web.2:w web.3:ra web.4:sa",
			"api.1:fc api.3:sb* db.1:rb* web.2:sa* web.3:ra web.4:ra*"},
	})
}

func TestATickAtWhichNothingChanges(t *testing.T) {
	checkTicks(t, []ticked{
		{"", "", ""},
		{"a b!", "", ""},
		{"a b!", "web.1:ra", "web.1:ra"},
		{"a b!", "api.1:ra db.1:fb web.1:rb web.2:fa", "api.1:ra db.1:fb web.1:rb web.2:fa"},
	})
}

func TestTicksOneBehindTheOther(t *testing.T) {
	b := moor(t, "a b", "web.1:w web.2:w! web.3:sa")
	for i, want := range []string{"web.1:sb* web.3:ra*", "web.1:rb* web.3:ra", "web.1:rb web.3:ra"} {
		b = checkSea(t, "tick "+strconv.Itoa(i), b, impl.StewEvent{Kind: impl.StewTick}, 0)
		if told := tellMoor(b); told != want || b.Now != 101+i {
			t.Errorf("tick %d: %q at %d, want %q", i, told, b.Now, want)
		}
	}
}

func TestTickOfServicesThatAreGoneOrOverfull(t *testing.T) {
	b := moor(t, "a b", "web.1:w web.2:sa web.3:ra! web.4:ra web.5:ra web.6:ra")
	b.Services[0].Gone, b.Services[0].Want = true, 0
	got := checkSea(t, "gone", b, impl.StewEvent{Kind: impl.StewTick}, 0)
	if told := tellMoor(got); told != "web.1:sb* web.2:ra* web.4:ra web.5:ra web.6:ra" {
		t.Errorf("gone: %s", told)
	}
}

func TestTickOfAFullBook(t *testing.T) {
	b := crowd(impl.StewMaxServices, impl.StewMaxCopies, impl.StewMaxBerths)
	got := checkSea(t, "a full book", b, impl.StewEvent{Kind: impl.StewTick}, 0)
	for i, c := range got.Copies {
		if want := "b" + strconv.Itoa(i%impl.StewMaxBerths); c.Berth != want || c.State != impl.StewStarting {
			t.Fatalf("a full book: copy %d is %+v", i, c)
		}
	}
}

// A tick looks at its Kind alone.
func TestTickOverlooksTheRest(t *testing.T) {
	e := impl.StewEvent{Kind: impl.StewTick, Service: impl.StewService{Name: "new", Image: 1}, Name: "a", Number: 1, Flag: true}
	got := checkSea(t, "a tick with more", moor(t, "a", "a.1:ra"), e, 0)
	if told := tellMoor(got); told != "a.1:ra" || len(got.Services) != 1 || got.Berths[0].Drain {
		t.Errorf("a tick with more: %+v", got)
	}
}

// wish is an ordinary wish that differs from port's services in all that it tells.
func wish(name string) impl.StewService {
	return impl.StewService{Name: name, Version: 77, Image: 8, Want: 9, Down: 7, Over: 6, Next: 88, Per: 40, Least: 1, Most: 9, Load: 55, Cool: 3}
}

func wished(s impl.StewService) impl.StewEvent {
	return impl.StewEvent{Kind: impl.StewWish, Service: s}
}

func TestWishOfANameThatIsThere(t *testing.T) {
	for at, was := range port().Services {
		for _, gone := range []bool{false, true} {
			w := wish(was.Name)
			w.Gone = gone
			got := checkSea(t, "wish "+w.Name, port(), wished(w), 0)
			want := port()
			want.Now = 101
			want.Services[at] = impl.StewService{Name: was.Name, Version: 101, Gone: gone, Image: 8, Want: 9, Down: 7, Over: 6,
				Next: was.Next, Per: 40, Least: 1, Most: 9, Load: 55}
			if !sameBook(got, want) {
				t.Errorf("wish %s:\n%+v, want\n%+v", w.Name, got, want)
			}
		}
	}
}

func TestWishOfWhatIsThereAlready(t *testing.T) {
	b := port()
	for at, s := range b.Services {
		got := checkSea(t, "the same again", b, wished(s), 0)
		s.Version, s.Cool = 101, 0
		if got.Services[at] != s {
			t.Errorf("the same again: %+v", got.Services[at])
		}
	}
}

// What a service no longer needs to follow its load is taken from it.
func TestWishWithoutPer(t *testing.T) {
	got := checkSea(t, "no per", port(), wished(impl.StewService{Name: "api", Image: 1, Over: 1}), 0)
	if got.Services[portAPI] != (impl.StewService{Name: "api", Version: 101, Image: 1, Over: 1, Next: 30}) {
		t.Errorf("no per: %+v", got.Services[portAPI])
	}
	checkSea(t, "no per, but a cool", port(), wished(impl.StewService{Name: "api", Image: 1, Over: 1, Cool: 2}), 0)
}

func TestWishOfANewName(t *testing.T) {
	for name, at := range map[string]int{"a": 0, "ap": 0, "api-": 1, "apia": 1, "b": 1, "eva": 2, "evf": 3, "we": 3, "web0": 4, "z": 4, "0": 0, "-": 0} {
		got := checkSea(t, "new "+name, port(), wished(wish(name)), 0)
		want := wish(name)
		want.Version, want.Next, want.Cool = 101, 1, 0
		if len(got.Services) != 5 || got.Services[at] != want {
			t.Errorf("new %s: %+v", name, got.Services)
		}
		if !reflect.DeepEqual(got.Copies, port().Copies) {
			t.Errorf("new %s: the copies are changed", name)
		}
	}
	got := checkSea(t, "the first", impl.StewBook{}, wished(wish("web")), 0)
	if len(got.Services) != 1 || got.Services[0].Version != 1 || got.Services[0].Next != 1 {
		t.Errorf("the first: %+v", got)
	}
	w := wish("new")
	w.Gone = true
	checkSea(t, "a new one that is gone", port(), wished(w), 0)
}

func TestWishesThatWouldSpoilTheBook(t *testing.T) {
	for _, c := range []struct {
		title string
		alter func(s *impl.StewService)
		code  int
	}{
		{"image 0", func(s *impl.StewService) { s.Image = 0 }, 2},
		{"image 1", func(s *impl.StewService) { s.Image = 1 }, 0},
		{"image at its limit", func(s *impl.StewService) { s.Image = impl.StewMaxNumber }, 0},
		{"image above", func(s *impl.StewService) { s.Image = impl.StewMaxNumber + 1 }, 2},
		{"want below 0", func(s *impl.StewService) { s.Want = -1 }, 2},
		{"want 0", func(s *impl.StewService) { s.Want = 0 }, 0},
		{"want at its limit", func(s *impl.StewService) { s.Want = 10 }, 0},
		{"want above", func(s *impl.StewService) { s.Want = 11 }, 2},
		{"down below 0", func(s *impl.StewService) { s.Down = -1 }, 2},
		{"down above", func(s *impl.StewService) { s.Down = 11 }, 2},
		{"over below 0", func(s *impl.StewService) { s.Over = -1 }, 2},
		{"over above", func(s *impl.StewService) { s.Over = 11 }, 2},
		{"neither down nor over", func(s *impl.StewService) { s.Down, s.Over = 0, 0 }, 2},
		{"no over", func(s *impl.StewService) { s.Over = 0 }, 0},
		{"no down", func(s *impl.StewService) { s.Down = 0 }, 0},
		{"per below 0", func(s *impl.StewService) { s.Per = -1 }, 2},
		{"per at its limit", func(s *impl.StewService) { s.Per = impl.StewMaxLoad }, 0},
		{"per above", func(s *impl.StewService) { s.Per = impl.StewMaxLoad + 1 }, 2},
		{"least below 0", func(s *impl.StewService) { s.Least = -1 }, 2},
		{"least above most", func(s *impl.StewService) { s.Least, s.Most = 4, 3 }, 2},
		{"least is most", func(s *impl.StewService) { s.Least, s.Most = 4, 4 }, 0},
		{"most above", func(s *impl.StewService) { s.Most = 11 }, 2},
		{"load below 0", func(s *impl.StewService) { s.Load = -1 }, 2},
		{"load at its limit", func(s *impl.StewService) { s.Load = impl.StewMaxLoad }, 0},
		{"load above", func(s *impl.StewService) { s.Load = impl.StewMaxLoad + 1 }, 2},
		{"no per, but the rest", func(s *impl.StewService) { s.Per = 0 }, 2},
		{"no per, but a least", func(s *impl.StewService) { s.Per, s.Most, s.Load = 0, 0, 0 }, 2},
		{"no per, but a most", func(s *impl.StewService) { s.Per, s.Least, s.Load = 0, 0, 0 }, 2},
		{"no per, but a load", func(s *impl.StewService) { s.Per, s.Least, s.Most = 0, 0, 0 }, 2},
		{"no per", func(s *impl.StewService) { s.Per, s.Least, s.Most, s.Load = 0, 0, 0, 0 }, 0},
		{"want outside least and most", func(s *impl.StewService) { s.Want, s.Least, s.Most = 1, 4, 5 }, 0},
		// what is not taken from the wish can't spoil the book
		{"next 0", func(s *impl.StewService) { s.Next = 0 }, 0},
		{"next above", func(s *impl.StewService) { s.Next = math.MaxInt }, 0},
		{"version 0", func(s *impl.StewService) { s.Version = 0 }, 0},
		{"version above", func(s *impl.StewService) { s.Version = math.MaxInt }, 0},
		{"cool below 0", func(s *impl.StewService) { s.Cool = math.MinInt }, 0},
		{"cool above", func(s *impl.StewService) { s.Cool = 4 }, 0},
	} {
		for _, name := range []string{"api", "web", "new"} {
			w := wish(name)
			c.alter(&w)
			checkSea(t, c.title+" of "+name, port(), wished(w), c.code)
		}
	}
}

func TestWishesWithNoName(t *testing.T) {
	for _, s := range []string{"", "Z", "a b", "web\n", "ü", "\xff", name(21), name(100000)} {
		checkSea(t, "a wish of no name", port(), wished(wish(s)), 2)
		checkSea(t, "a wish of no name in a book with nothing", impl.StewBook{}, wished(wish(s)), 2)
	}
	checkSea(t, "a name of the greatest size", port(), wished(wish(name(20))), 0)
	checkSea(t, "nothing wished for", port(), wished(impl.StewService{}), 2)
	b := crowd(impl.StewMaxServices-1, 3, 1)
	checkSea(t, "the last service", b, wished(wish("s9")), 0)
	b = crowd(impl.StewMaxServices, 3, 1)
	checkSea(t, "a service too many", b, wished(wish("s9")), 2)
	checkSea(t, "a service too many, ahead", b, wished(wish("a")), 2)
	checkSea(t, "one of all there may be", b, wished(wish("s7")), 0)
	checkSea(t, "a name of a berth", b, impl.StewEvent{Kind: impl.StewWish, Service: wish("s0"), Name: "b0"}, 0)
}

func failed(service string, number int) impl.StewEvent {
	return impl.StewEvent{Kind: impl.StewFails, Name: service, Number: number}
}

func TestFails(t *testing.T) {
	b := moor(t, "a b!", "api.1:ra web.1:w web.2:sa web.3:ra web.4:fa web.5:w! web.6:sb! web.7:rb! web.8:fb! web.9:rb web.10:ra")
	for number, code := range []int{3, 3, 0, 0, 3, 3, 0, 0, 3, 0, 0, 3} {
		title := "web." + strconv.Itoa(number) + " fails"
		got := checkSea(t, title, b, failed("web", number), code)
		if code != 0 {
			continue
		}
		want := copyBook(b)
		want.Now = 101
		at := placeOf(b, "web", number)
		want.Copies[at].State, want.Copies[at].Version = impl.StewFailed, 101
		if !sameBook(got, want) {
			t.Errorf("%s:\n%+v, want\n%+v", title, got, want)
		}
	}
	checkSea(t, "the same number of another", b, failed("api", 1), 0)
	for _, e := range []impl.StewEvent{
		failed("api", 2), failed("api", 0), failed("api", -1), failed("api", math.MaxInt), failed("api", math.MinInt),
		failed("", 1), failed("a", 1), failed("ap", 1), failed("zz", 1), failed("API", 1), failed(name(100000), 1), failed("web", 499), failed("web", 500),
	} {
		checkSea(t, "no such copy", b, e, 3)
		checkSea(t, "nothing at all", impl.StewBook{}, e, 3)
	}
	again := checkSea(t, "fails", b, failed("web", 3), 0)
	checkSea(t, "fails again", again, failed("web", 3), 3)
	e := failed("web", 3)
	e.Service, e.Flag = wish("api"), true
	checkSea(t, "fails with more", b, e, 0)
}

func sunk(name string) impl.StewEvent {
	return impl.StewEvent{Kind: impl.StewSink, Name: name}
}

func TestSink(t *testing.T) {
	b := moor(t, "a b! c web", "api.1:ra api.2:rb db.1:w db.2:w! web.1:sa web.2:rc web.3:fa! web.4:rc! web.5:fb")
	for _, c := range []struct {
		name, berths, copies string
	}{
		{"a", "b! c web", "api.2:rb db.1:w db.2:w! web.2:rc web.4:rc! web.5:fb"},
		{"b", "a c web", "api.1:ra db.1:w db.2:w! web.1:sa web.2:rc web.3:fa! web.4:rc!"},
		{"c", "a b! web", "api.1:ra api.2:rb db.1:w db.2:w! web.1:sa web.3:fa! web.5:fb"},
		{"web", "a b! c", "api.1:ra api.2:rb db.1:w db.2:w! web.1:sa web.2:rc web.3:fa! web.4:rc! web.5:fb"},
	} {
		got := checkSea(t, "sink "+c.name, b, sunk(c.name), 0)
		if told := tellMoor(got); told != c.copies {
			t.Errorf("sink %s: %s, want %s", c.name, told, c.copies)
		}
		if want := moor(t, c.berths, ""); !reflect.DeepEqual(got.Berths, want.Berths) {
			t.Errorf("sink %s: %+v", c.name, got.Berths)
		}
		if !reflect.DeepEqual(got.Services, b.Services) {
			t.Errorf("sink %s: services are changed: %+v", c.name, got.Services)
		}
	}
	for _, s := range []string{"", "d", "aa", "A", "api", "db", "we", "web-", name(100000)} {
		checkSea(t, "sink one that is not there", b, sunk(s), 3)
		checkSea(t, "sink in a book with nothing", impl.StewBook{}, sunk(s), 3)
	}
	only := checkSea(t, "sink the only one", moor(t, "a", "web.1:ra web.2:w"), sunk("a"), 0)
	if tellMoor(only) != "web.2:w" || len(only.Berths) != 0 {
		t.Errorf("sink the only one: %+v", only)
	}
	checkSea(t, "sink it again", only, sunk("a"), 3)
	all := checkSea(t, "sink the one with all copies", moor(t, "a", "api.1:ra web.1:ra"), sunk("a"), 0)
	if len(all.Copies) != 0 || len(all.Services) != 2 {
		t.Errorf("sink the one with all copies: %+v", all)
	}
}

func raised(name string, drain bool) impl.StewEvent {
	return impl.StewEvent{Kind: impl.StewRaise, Name: name, Flag: drain}
}

func TestRaise(t *testing.T) {
	for _, c := range []struct {
		berths, name string
		drain        bool
		want         string
	}{
		{"", "a", false, "a"},
		{"", "a", true, "a!"},
		{"b d!", "a", false, "a b d!"},
		{"b d!", "a", true, "a! b d!"},
		{"b d!", "c", false, "b c d!"},
		{"b d!", "c", true, "b c! d!"},
		{"b d!", "e", false, "b d! e"},
		{"b d!", "e", true, "b d! e!"},
		{"b d!", "b", false, "b d!"},
		{"b d!", "b", true, "b! d!"},
		{"b d!", "d", false, "b d"},
		{"b d!", "d", true, "b d!"},
		{"b d!", "b-", false, "b b- d!"},
		{"ab b", "a", false, "a ab b"},
	} {
		title := c.berths + " and " + c.name
		b := moor(t, c.berths, "web.1:w web.2:w!")
		for _, berth := range b.Berths {
			b.Copies = append(b.Copies, impl.StewCopy{Service: "web", Number: 3 + len(b.Copies), Version: 7, Image: 1, State: impl.StewReady, Berth: berth.Name})
		}
		got := checkSea(t, title, b, raised(c.name, c.drain), 0)
		if want := moor(t, c.want, ""); !reflect.DeepEqual(got.Berths, want.Berths) {
			t.Errorf("%s: %+v, want %s", title, got.Berths, c.want)
		}
		if !reflect.DeepEqual(got.Copies, b.Copies) || !reflect.DeepEqual(got.Services, b.Services) {
			t.Errorf("%s: more than berths is changed", title)
		}
	}
}

func TestRaiseOfWhatMayNotBe(t *testing.T) {
	for _, drain := range []bool{false, true} {
		for _, s := range []string{"", "A", "a b", "b\n", "ü", "\x00", name(21), name(100000)} {
			checkSea(t, "no name", port(), raised(s, drain), 2)
			checkSea(t, "no name in a book with nothing", impl.StewBook{}, raised(s, drain), 2)
		}
		checkSea(t, "a name of the greatest size", port(), raised(name(20), drain), 0)
		checkSea(t, "a service's name", port(), raised("web", drain), 0)
		checkSea(t, "the last berth", crowd(1, 1, impl.StewMaxBerths-1), raised("z", drain), 0)
		checkSea(t, "a berth too many", crowd(1, 1, impl.StewMaxBerths), raised("z", drain), 2)
		checkSea(t, "a berth too many, ahead", crowd(1, 1, impl.StewMaxBerths), raised("a", drain), 2)
		checkSea(t, "one of all there may be", crowd(1, 1, impl.StewMaxBerths), raised("b3", drain), 0)
	}
}

func loaded(name string, load int) impl.StewEvent {
	return impl.StewEvent{Kind: impl.StewLoad, Name: name, Number: load}
}

func TestLoad(t *testing.T) {
	for load, code := range map[int]int{math.MinInt: 2, -1: 2, 0: 0, 1: 0, 35: 0, impl.StewMaxLoad: 0, impl.StewMaxLoad + 1: 2, math.MaxInt: 2} {
		title := "load " + strconv.Itoa(load)
		got := checkSea(t, title, port(), loaded("api", load), code)
		if code != 0 {
			continue
		}
		want := port()
		want.Now, want.Services[portAPI].Load, want.Services[portAPI].Version = 101, load, 101
		if !sameBook(got, want) {
			t.Errorf("%s:\n%+v, want\n%+v", title, got, want)
		}
	}
	gone := port()
	gone.Services[portAPI].Gone = true
	checkSea(t, "load of one that is gone", gone, loaded("api", 9), 0)
	for _, s := range []string{"web", "db", "eve", "", "a", "ap", "apia", "zz", "API", name(100000)} {
		for _, load := range []int{-1, 0, 5, impl.StewMaxLoad + 1} {
			checkSea(t, "load of none that follows one", port(), loaded(s, load), 3)
			checkSea(t, "load in a book with nothing", impl.StewBook{}, loaded(s, load), 3)
		}
	}
	per := port()
	per.Services[portWeb].Per = 1
	checkSea(t, "load of one with a per of 1", per, loaded("web", impl.StewMaxLoad), 0)
}

func TestOtherKindsOfEvents(t *testing.T) {
	for _, kind := range []int{math.MinInt, -6, -1, 0, 7, 8, 100, math.MaxInt} {
		e := impl.StewEvent{Kind: kind, Service: wish("web"), Name: "a", Number: 1}
		checkSea(t, "kind "+strconv.Itoa(kind), port(), e, 4)
		checkSea(t, "kind "+strconv.Itoa(kind)+", no version left", withNow(port(), impl.StewMaxNumber), e, 4)
		checkSea(t, "kind "+strconv.Itoa(kind)+", nothing", impl.StewBook{}, e, 4)
	}
	if impl.StewTick != 1 || impl.StewWish != 2 || impl.StewFails != 3 || impl.StewSink != 4 || impl.StewRaise != 5 || impl.StewLoad != 6 {
		t.Error("the kinds are not the document's")
	}
}

// goodEvents happen in port.
func goodEvents() []impl.StewEvent {
	return []impl.StewEvent{{Kind: impl.StewTick}, wished(wish("web")), wished(wish("new")), failed("web", 1), sunk("a"),
		raised("a", true), raised("c", false), loaded("api", 1)}
}

// wrongEvents have a code of chapter 6's table in port, under which they lie here.
func wrongEvents() map[int][]impl.StewEvent {
	return map[int][]impl.StewEvent{
		2: {wished(impl.StewService{}), wished(impl.StewService{Name: "web"}), raised("", false), raised("C", true), loaded("api", -1)},
		3: {failed("web", 9), failed("api", 12), sunk("c"), loaded("web", 1), loaded("web", -1), loaded("nope", impl.StewMaxLoad+1)},
	}
}

func TestTheFirstCodeOfAnEventIsTold(t *testing.T) {
	spoilt := port()
	spoilt.Services[portDB].Image = 0
	late := withNow(port(), impl.StewMaxNumber+1)
	last := withNow(port(), impl.StewMaxNumber)
	lastButOne := withNow(port(), impl.StewMaxNumber-1)
	for _, e := range goodEvents() {
		checkSea(t, "good", port(), e, 0)
		checkSea(t, "good, spoilt", spoilt, e, 1)
		checkSea(t, "good, beyond the last version", late, e, 1)
		checkSea(t, "good, no version left", last, e, 7)
		checkSea(t, "good, one version left", lastButOne, e, 0)
	}
	for code, events := range wrongEvents() {
		for _, e := range events {
			checkSea(t, "wrong", port(), e, code)
			checkSea(t, "wrong, spoilt", spoilt, e, 1)
			checkSea(t, "wrong, no version left", last, e, 7)
			checkSea(t, "wrong, one version left", lastButOne, e, code)
		}
	}
	for _, kind := range []int{-1, 0, 7} {
		checkSea(t, "another kind, spoilt", spoilt, impl.StewEvent{Kind: kind}, 1)
		checkSea(t, "another kind, no version left", last, impl.StewEvent{Kind: kind}, 4)
	}
}

func TestEventsOfBooksThatAreNotValid(t *testing.T) {
	for _, c := range []change{
		{"now", func(b *impl.StewBook) { b.Now = 52 }},
		{"now below 0", func(b *impl.StewBook) { b.Now = -1 }},
		{"a service's name", func(b *impl.StewBook) { b.Services[portWeb].Name = "web!" }},
		{"copies turned round", func(b *impl.StewBook) { b.Copies[6], b.Copies[7] = b.Copies[7], b.Copies[6] }},
		{"a berth's name", func(b *impl.StewBook) { b.Berths[1].Name = "" }},
		{"no berths", func(b *impl.StewBook) { b.Berths = nil }},
		{"no services", func(b *impl.StewBook) { b.Services = nil }},
		{"too many copies", func(b *impl.StewBook) { *b = crowd(1, impl.StewMaxCopies+1, 0) }},
		{"too many berths", func(b *impl.StewBook) { b.Berths = make([]impl.StewBerth, 1000) }},
		{"an image that the wish would mend", func(b *impl.StewBook) { b.Services[portWeb].Image = 0 }},
		{"a load that the event would mend", func(b *impl.StewBook) { b.Services[portAPI].Load = -1 }},
		{"an ending copy's state that the tick would take away", func(b *impl.StewBook) { b.Copies[5].State = 9 }},
	} {
		b := port()
		c.do(&b)
		for _, e := range goodEvents() {
			checkSea(t, c.name, b, e, 1)
		}
	}
}

// Promise 1, and chapter 6 as a whole.
func TestEventsAgainstTheModel(t *testing.T) {
	r := rand.New(rand.NewSource(6))
	var told [8]int
	var kinds [7]int
	for range 20000 {
		b := randomView(r)
		e := randomEvent(r)
		_, want := modelSea(b, e)
		checkSea(t, "random event", b, e, want)
		if t.Failed() {
			t.Fatalf("%+v in %+v", e, b)
		}
		told[want]++
		if want == 0 {
			kinds[e.Kind]++
		}
	}
	for _, code := range []int{0, 2, 3, 4, 7} {
		if told[code] < 100 {
			t.Errorf("code %d is told %d times alone", code, told[code])
		}
	}
	for kind, n := range kinds[1:] {
		if n < 500 {
			t.Errorf("kind %d happens %d times alone", kind+1, n)
		}
	}
}

func TestTheSeaKeepsNothing(t *testing.T) {
	for _, e := range goodEvents() {
		first, _ := impl.StewSea(port(), e)
		impl.StewSea(first, impl.StewEvent{Kind: impl.StewTick})
		if again, code := impl.StewSea(port(), e); code != 0 || !sameBook(first, again) {
			t.Errorf("%+v: code %d,\n%+v, then\n%+v", e, code, first, again)
		}
	}
}
