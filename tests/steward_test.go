package tests

import (
	"math"
	"math/rand"
	"reflect"
	"strconv"
	"strings"
	"testing"

	"loop.example/wharfsteward/impl"
)

// tell writes down all that acts ask for, but for what was seen.
func tell(acts []impl.StewAct) string {
	var words []string
	for _, a := range acts {
		word := a.Service
		if a.Create != 0 {
			word += "+" + strconv.Itoa(a.Create)
		}
		for _, e := range a.Ends {
			word += "-" + strconv.Itoa(e.Number)
		}
		if a.Scale || a.Want != 0 || a.Cool != 0 {
			word += "=" + strconv.Itoa(a.Want) + "/" + strconv.Itoa(a.Cool)
		}
		if !a.Scale && (a.Want != 0 || a.Cool != 0) {
			word += " without scale"
		}
		if a.Drop {
			word += " drop"
		}
		words = append(words, word)
	}
	return strings.Join(words, " ")
}

// asks calls StewAsk, and fails if the view is changed by the call or by writing into the answer, or a list of the
// answer by writing into another.
func asks(t *testing.T, title string, kind int, view impl.StewBook) []impl.StewAct {
	t.Helper()
	short, whole := roomy(view)
	was := copyBook(whole)
	acts := impl.StewAsk(kind, short)
	if !reflect.DeepEqual(was, whole) {
		t.Errorf("%s: the view is changed", title)
	}
	var told []impl.StewAct
	for _, a := range acts {
		a.Ends = append([]impl.StewEnd(nil), a.Ends...)
		told = append(told, a)
	}
	for i, a := range acts {
		for j := range cap(a.Ends) {
			a.Ends[:cap(a.Ends)][j] = impl.StewEnd{Number: -1, Seen: -1}
		}
		for j := i + 1; j < len(acts); j++ {
			if len(acts[j].Ends) > 0 && !reflect.DeepEqual(acts[j].Ends, told[j].Ends) {
				t.Errorf("%s: two lists share memory", title)
			}
		}
	}
	for i := range cap(acts) {
		acts[:cap(acts)][i] = impl.StewAct{Service: "scribble"}
	}
	if !reflect.DeepEqual(was, whole) {
		t.Errorf("%s: the answer shares memory with the view", title)
	}
	return told
}

// checkAsk holds what a steward asks for against want; what was seen must be as in the view, and what is asked for must
// be done there (promise 2).
func checkAsk(t *testing.T, title string, kind int, view impl.StewBook, want string) {
	t.Helper()
	acts := asks(t, title, kind, view)
	if got := tell(acts); got != want {
		t.Errorf("%s: steward %d asks for %q, want %q", title, kind, got, want)
	}
	checkSeen(t, title, view, acts)
}

// checkSeen: the codes are those of chapter 4's model, which here can tell 0 and 7 alone.
func checkSeen(t *testing.T, title string, view impl.StewBook, acts []impl.StewAct) {
	t.Helper()
	for i, a := range acts {
		if i > 0 && a.Service <= acts[i-1].Service {
			t.Errorf("%s: %s behind %s", title, a.Service, acts[i-1].Service)
		}
		var numbers []int
		for _, e := range a.Ends {
			numbers = append(numbers, e.Number)
		}
		if !reflect.DeepEqual(a, asked(view, a.Service, a, numbers...)) {
			t.Errorf("%s: %+v is not as it is seen", title, a)
		}
		want := 0
		if modelFull(view, a) {
			want = 7
		}
		if _, code := impl.StewApply(view, a); code != want {
			t.Errorf("%s: %+v is answered with %d, want %d", title, a, code, want)
		}
	}
}

// Services of which crew is made.
func wants(want, down, over int) impl.StewService {
	return impl.StewService{Want: want, Down: down, Over: over}
}

func gone(s impl.StewService) impl.StewService {
	s.Gone = true
	return s
}

func follows(s impl.StewService, load, per, least, most, cool int) impl.StewService {
	s.Load, s.Per, s.Least, s.Most, s.Cool = load, per, least, most, cool
	return s
}

// crew is a book with the service web of image 2 alone; each word tells one of its copies, numbered from 1: w, s, r or
// f for its state, o for an old image, d for a berth that is to be drained, e for Ending.
func crew(t *testing.T, s impl.StewService, words string) impl.StewBook {
	t.Helper()
	s.Name, s.Version, s.Image, s.Next = "web", 9, 2, 1
	b := impl.StewBook{Now: 500, Berths: []impl.StewBerth{{Name: "a"}, {Name: "b", Drain: true}, {Name: "c"}}}
	for _, word := range strings.Fields(words) {
		c := impl.StewCopy{Service: "web", Number: s.Next, Version: 100 + 3*s.Next, Image: 2, Berth: "a"}
		c.State = 1 + strings.Index("wsrf", word[:1])
		c.Ending = strings.Contains(word, "e")
		if strings.Contains(word, "o") {
			c.Image = 1
		}
		if strings.Contains(word, "d") {
			c.Berth = "b"
		}
		if c.State == impl.StewWaiting {
			c.Berth = ""
		}
		b.Copies = append(b.Copies, c)
		s.Next++
	}
	b.Services = []impl.StewService{s}
	if !impl.StewValid(b) {
		t.Fatalf("%+v %q is not valid", s, words)
	}
	return b
}

// request is what a steward asks for of a crew.
type request struct {
	service impl.StewService
	copies  string
	want    string
}

func checkRequests(t *testing.T, kind int, requests []request) {
	t.Helper()
	for _, q := range requests {
		title := strconv.Itoa(q.service.Want) + "-" + strconv.Itoa(q.service.Down) + "+" + strconv.Itoa(q.service.Over) + " " + q.copies
		checkAsk(t, title, kind, crew(t, q.service, q.copies), q.want)
	}
}

func TestCounterCreates(t *testing.T) {
	checkRequests(t, impl.StewCounter, []request{
		{wants(3, 1, 1), "", "web+3"},
		{wants(3, 1, 1), "r", "web+2"},
		{wants(3, 1, 1), "r r", "web+1"},
		{wants(3, 1, 1), "r r r", ""},
		{wants(3, 1, 0), "r r", "web+1"},
		{wants(3, 0, 1), "r r", "web+1"},
		{wants(10, 1, 0), "", "web+10"},
		{wants(10, 0, 10), "", "web+10"},
		{wants(0, 1, 1), "", ""},
		{wants(1, 10, 0), "", "web+1"},
		{wants(3, 1, 1), "re re re", "web+3"},
		{wants(3, 1, 1), "r re we r", "web+1"},
		{wants(3, 1, 1), "w s f", ""},
		{wants(3, 1, 1), "w s", "web+1"},
		{wants(3, 1, 1), "ro rd", "web+1"},
		{wants(3, 1, 1), "ro ro rd", ""},
		{gone(wants(3, 1, 1)), "", ""},
		{gone(wants(3, 1, 1)), "r r", ""},
	})
}

func TestCounterEndsExtraCopies(t *testing.T) {
	checkRequests(t, impl.StewCounter, []request{
		{wants(3, 1, 1), "r r r r", "web-4"},
		{wants(3, 1, 1), "r r r r r", "web-5"},
		{wants(3, 1, 0), "r r r r", "web-4"},
		{wants(3, 0, 1), "r r r r", "web-4"},
		{wants(0, 1, 1), "r", "web-1"},
		{wants(0, 0, 1), "r", "web-1"},
		{wants(3, 1, 1), "r r r re", ""},
		{wants(3, 1, 1), "r r r re re re", ""},
		{gone(wants(3, 1, 1)), "r r r r r", ""},
		{gone(wants(3, 1, 1)), "w w w w w w", ""},
	})
}

func TestCounterLeavesExtraCopiesWhileOthersAreReplaced(t *testing.T) {
	checkRequests(t, impl.StewCounter, []request{
		{wants(3, 1, 1), "ro r r", ""},
		{wants(3, 1, 1), "ro r r r", ""},
		{wants(3, 1, 1), "ro r r r r", "web-1"},
		{wants(3, 1, 1), "rd r r", ""},
		{wants(3, 1, 1), "rd r r r", ""},
		{wants(3, 1, 1), "rd r r r r", "web-1"},
		{wants(3, 1, 2), "ro r r r r", ""},
		{wants(3, 1, 2), "ro r r r r r", "web-1"},
		{wants(3, 1, 2), "rd r r r r", ""},
		{wants(3, 1, 2), "rd r r r r r", "web-1"},
		{wants(3, 1, 1), "ro rd r r", ""},
		{wants(3, 1, 1), "ro rd r r r", "web-1"},
		{wants(3, 1, 0), "ro r r", ""},
		{wants(3, 1, 0), "ro r r r", "web-1"},
		{wants(3, 1, 0), "rd r r r", "web-1"},
		// an old one, or one on such a berth, that is Ending is no ground to wait
		{wants(3, 1, 1), "roe r r r r", "web-5"},
		{wants(3, 1, 1), "rde r r r r", "web-5"},
		{wants(3, 1, 1), "rode r r r r", "web-5"},
	})
}

func TestCounterAsksOfTheFirstToEndAlone(t *testing.T) {
	checkRequests(t, impl.StewCounter, []request{
		// one that is not ready may end, though no ready one may
		{wants(3, 0, 1), "r r w r", "web-3"},
		{wants(3, 0, 1), "r r s w", "web-4"},
		{wants(3, 0, 1), "f r r r r", "web-1"},
	})
	// If it is ready, so are all, and as these are more than Want, it may end even where none may be down.
	for want := range impl.StewMaxWant {
		b := crew(t, wants(want, 0, 1), strings.Repeat("r ", want+1))
		checkAsk(t, "all ready", impl.StewCounter, b, "web-"+strconv.Itoa(want+1))
	}
}

func TestCounterChoosesTheFirstToEnd(t *testing.T) {
	checkRequests(t, impl.StewCounter, []request{
		// each ground alone
		{wants(1, 1, 1), "w r", "web-1"},
		{wants(1, 1, 1), "r w", "web-2"},
		{wants(1, 1, 1), "s r", "web-1"},
		{wants(1, 1, 1), "r s", "web-2"},
		{wants(1, 1, 1), "f r", "web-1"},
		{wants(1, 1, 1), "r f", "web-2"},
		{wants(1, 1, 0), "ro r", "web-1"},
		{wants(1, 1, 0), "r ro", "web-2"},
		{wants(1, 1, 0), "rd r", "web-1"},
		{wants(1, 1, 0), "r rd", "web-2"},
		{wants(1, 1, 0), "r r", "web-2"},
		{wants(1, 1, 0), "w w", "web-2"},
		{wants(1, 1, 0), "w s f s", "web-4"},
		{wants(1, 1, 0), "ro ro", "web-2"},
		{wants(1, 1, 0), "rd rd", "web-2"},
		{wants(1, 1, 0), "rod rod", "web-2"},
		// two at odds
		{wants(1, 1, 0), "s ro", "web-1"},
		{wants(1, 1, 0), "ro s", "web-2"},
		{wants(1, 1, 0), "s rd", "web-1"},
		{wants(1, 1, 0), "rd s", "web-2"},
		{wants(1, 1, 0), "ro rd", "web-1"},
		{wants(1, 1, 0), "rd ro", "web-2"},
		{wants(1, 1, 0), "sd so", "web-2"},
		{wants(1, 1, 0), "so sd", "web-1"},
		{wants(1, 1, 0), "w rod", "web-1"},
		{wants(1, 1, 0), "rod w", "web-2"},
		{wants(1, 1, 0), "ro rod", "web-2"},
		{wants(1, 1, 0), "rod ro", "web-1"},
		{wants(1, 1, 0), "rod rd", "web-1"},
		{wants(1, 1, 0), "sd s s", "web-1"},
		{wants(1, 1, 0), "w sd s", "web-2"},
		{wants(1, 1, 0), "wo sod s", "web-2"},
		// Ending ones are left out, whatever they are
		{wants(1, 1, 0), "r r we", "web-2"},
		{wants(1, 1, 0), "r roe r", "web-3"},
		{wants(1, 1, 0), "r rde r", "web-3"},
		{wants(1, 1, 0), "r r rode fode", "web-2"},
	})
}

func TestWaver(t *testing.T) {
	checkRequests(t, impl.StewWaver, []request{
		{wants(3, 1, 1), "r r r", ""},
		{wants(3, 1, 1), "r r r r r", ""},
		{wants(3, 1, 1), "ro ro", ""},
		{wants(3, 1, 1), "ro ro ro", "web+1"},
		{wants(3, 1, 1), "ro r r", "web+1"},
		{wants(3, 1, 1), "ro r r r", "web-1"},
		{wants(3, 1, 1), "ro r r r r", "web-1"},
		{wants(3, 1, 2), "ro r r", "web+1"},
		{wants(3, 1, 2), "ro r r r", "web+1"},
		{wants(3, 1, 2), "ro r r r r", "web-1"},
		{wants(3, 1, 2), "ro r r r r r", "web-1"},
		{wants(3, 1, 0), "ro r", ""},
		{wants(3, 1, 0), "ro r r", "web-1"},
		{wants(3, 1, 0), "ro r r r", "web-1"},
		{wants(0, 1, 1), "ro", "web-1"},
		{wants(0, 1, 2), "ro", "web+1"},
		{wants(0, 1, 0), "ro", "web-1"},
		{wants(1, 0, 1), "rod", "web+1"},
		// Ending ones count neither as old nor as live
		{wants(3, 1, 1), "roe r r r", ""},
		{wants(3, 1, 1), "ro re r r", "web+1"},
		{wants(3, 1, 1), "ro re r", ""},
		{gone(wants(3, 1, 1)), "ro ro ro", ""},
		{gone(wants(3, 1, 1)), "ro ro ro ro", ""},
		// drained berths are no ground
		{wants(3, 1, 1), "rd rd r", ""},
		{wants(3, 1, 1), "rd rd r r", ""},
	})
}

func TestWaverChoosesTheFirstOfTheOldThatMayEnd(t *testing.T) {
	checkRequests(t, impl.StewWaver, []request{
		// the gate shut and open: with one fewer ready the ready ones may not end
		{wants(3, 0, 1), "ro ro r w", ""},
		{wants(3, 0, 1), "ro ro r r", "web-2"},
		{wants(3, 1, 1), "ro ro r w", "web-2"},
		{wants(3, 1, 1), "ro ro s w", ""},
		{wants(3, 1, 0), "ro ro s", ""},
		{wants(3, 2, 0), "ro ro s", "web-2"},
		// an old one that is not ready may always end
		{wants(3, 0, 1), "so ro r w", "web-1"},
		{wants(3, 0, 1), "ro wo r w", "web-2"},
		{wants(3, 0, 1), "fo ro s w", "web-1"},
		// those that are not old are left out, though they would end ahead
		{wants(3, 1, 1), "ro r r w", "web-1"},
		{wants(3, 1, 1), "ro rd r s", "web-1"},
		{wants(3, 1, 1), "ro f r r", "web-1"},
		// grounds among the old
		{wants(3, 1, 1), "ro so ro r", "web-2"},
		{wants(3, 1, 1), "ro rod ro r", "web-2"},
		{wants(3, 1, 1), "rod so ro r", "web-2"},
		{wants(3, 1, 1), "wo sod so r", "web-2"},
		{wants(3, 1, 1), "ro ro ro ro", "web-4"},
		{wants(3, 1, 1), "ro ro ro roe soe r", "web-3"},
	})
}

func TestMender(t *testing.T) {
	checkRequests(t, impl.StewMender, []request{
		{wants(3, 1, 1), "", ""},
		{wants(3, 1, 1), "w s r", ""},
		{wants(3, 1, 1), "f", "web-1"},
		{wants(3, 1, 1), "r f r", "web-2"},
		{wants(3, 0, 1), "f f f", "web-1-2-3"},
		{wants(3, 1, 1), "f r f r f", "web-1-3-5"},
		{wants(3, 1, 1), "f fe f", "web-1-3"},
		{wants(3, 1, 1), "fe fe", ""},
		{wants(3, 1, 1), "fo r fd", "web-1-3"},
		{wants(10, 0, 1), "f", "web-1"},
		{wants(0, 1, 1), "f f", "web-1-2"},
		{gone(wants(3, 1, 1)), "r f w f", "web-2-4"},
		{gone(wants(3, 1, 1)), "r fe", ""},
	})
}

func TestScaler(t *testing.T) {
	at := func(want, load, per, least, most, cool int) impl.StewService {
		return follows(wants(want, 1, 1), load, per, least, most, cool)
	}
	checkRequests(t, impl.StewScaler, []request{
		// rounding up
		{at(3, 20, 10, 0, 10, 0), "", "web=3/1"},
		{at(3, 21, 10, 0, 10, 0), "", ""},
		{at(3, 29, 10, 0, 10, 0), "", ""},
		{at(3, 30, 10, 0, 10, 0), "", ""},
		{at(3, 31, 10, 0, 10, 0), "", "web=4/0"},
		{at(3, 3, 1, 0, 10, 0), "", ""},
		{at(3, 4, 1, 0, 10, 0), "", "web=4/0"},
		{at(1, 1, 1000000, 0, 10, 0), "", ""},
		{at(1, 1000000, 1000000, 0, 10, 0), "", ""},
		{at(1, 1000000, 999999, 0, 10, 0), "", "web=2/0"},
		{at(1, 1000000, 1, 0, 10, 0), "", "web=10/0"},
		{at(1, 0, 1, 0, 10, 0), "", "web=1/1"},
		{at(0, 0, 10, 0, 10, 0), "", ""},
		// held to Least and Most
		{at(3, 0, 10, 3, 5, 0), "", ""},
		{at(3, 29, 10, 3, 5, 0), "", ""},
		{at(4, 29, 10, 3, 5, 0), "", "web=4/1"},
		{at(5, 99, 10, 3, 5, 0), "", ""},
		{at(4, 99, 10, 3, 5, 0), "", "web=5/0"},
		{at(4, 0, 10, 4, 4, 0), "", ""},
		{at(4, 99, 10, 4, 4, 0), "", ""},
		{at(0, 99, 10, 0, 0, 0), "", ""},
		// more is asked for, whatever Cool is
		{at(2, 45, 10, 1, 9, 0), "", "web=5/0"},
		{at(2, 45, 10, 1, 9, 1), "", "web=5/0"},
		{at(2, 45, 10, 1, 9, 3), "", "web=5/0"},
		// less is asked for
		{at(6, 45, 10, 1, 9, 0), "", "web=6/1"},
		{at(6, 45, 10, 1, 9, 1), "", "web=6/2"},
		{at(6, 45, 10, 1, 9, 2), "", "web=6/3"},
		{at(6, 45, 10, 1, 9, 3), "", "web=5/0"},
		{at(9, 5, 10, 1, 9, 3), "", "web=8/0"},
		// the same is asked for
		{at(5, 45, 10, 1, 9, 0), "", ""},
		{at(5, 45, 10, 1, 9, 1), "", "web=5/0"},
		{at(5, 45, 10, 1, 9, 3), "", "web=5/0"},
	})
}

func TestScalerBringsWantBack(t *testing.T) {
	at := func(want, load, cool int) impl.StewService {
		return follows(wants(want, 1, 1), load, 10, 3, 6, cool)
	}
	checkRequests(t, impl.StewScaler, []request{
		{at(2, 0, 0), "", "web=3/0"},
		{at(2, 0, 3), "", "web=3/0"},
		{at(0, 30, 1), "", "web=3/0"},
		// to the nearer bound, though the load asks for more, or for less
		{at(2, 45, 0), "", "web=3/0"},
		{at(2, 99, 2), "", "web=3/0"},
		{at(7, 99, 0), "", "web=6/0"},
		{at(7, 99, 3), "", "web=6/0"},
		{at(7, 45, 0), "", "web=6/0"},
		{at(7, 0, 3), "", "web=6/0"},
		{at(10, 0, 2), "", "web=6/0"},
		// the bounds themselves are within
		{at(3, 0, 0), "", ""},
		{at(3, 45, 0), "", "web=5/0"},
		{at(6, 60, 0), "", ""},
		{at(6, 45, 0), "", "web=6/1"},
	})
}

func TestScalerLeavesOthersAlone(t *testing.T) {
	checkRequests(t, impl.StewScaler, []request{
		{wants(3, 1, 1), "", ""},
		{wants(0, 1, 1), "r r", ""},
		{gone(follows(wants(3, 1, 1), 99, 10, 1, 5, 0)), "", ""},
		{gone(follows(wants(3, 1, 1), 9, 10, 1, 5, 3)), "", ""},
		{gone(follows(wants(0, 1, 1), 9, 10, 1, 5, 3)), "", ""},
		// copies do not bear on it
		{follows(wants(3, 1, 1), 25, 10, 1, 5, 0), "ro f rd re", ""},
		{follows(wants(3, 1, 1), 35, 10, 1, 5, 0), "ro f rd re r r r", "web=4/0"},
	})
}

func TestSweeper(t *testing.T) {
	checkRequests(t, impl.StewSweeper, []request{
		{gone(wants(3, 1, 1)), "", "web drop"},
		{gone(wants(0, 1, 1)), "", "web drop"},
		{gone(follows(wants(3, 1, 1), 25, 10, 1, 5, 2)), "", "web drop"},
		{gone(wants(3, 0, 1)), "r", "web-1"},
		{gone(wants(3, 0, 1)), "r s w f", "web-1-2-3-4"},
		{gone(wants(3, 0, 1)), "ro rd r", "web-1-2-3"},
		{gone(wants(3, 0, 1)), "re r re r we", "web-2-4"},
		{gone(wants(3, 0, 1)), "re", ""},
		{gone(wants(3, 0, 1)), "re we fe se", ""},
		{wants(3, 1, 1), "", ""},
		{wants(0, 1, 1), "", ""},
		{wants(0, 1, 1), "r r r", ""},
		{wants(3, 1, 1), "f f re", ""},
	})
}

func TestDrainer(t *testing.T) {
	checkRequests(t, impl.StewDrainer, []request{
		{wants(3, 1, 1), "r r r", ""},
		{wants(3, 1, 1), "r r r r r", ""},
		{wants(3, 1, 1), "rd rd", ""},
		{wants(3, 1, 1), "rd rd rd", "web+1"},
		{wants(3, 1, 1), "rd r r", "web+1"},
		{wants(3, 1, 1), "rd r r r", "web-1"},
		{wants(3, 1, 1), "rd r r r r", "web-1"},
		{wants(3, 1, 2), "rd r r r", "web+1"},
		{wants(3, 1, 2), "rd r r r r", "web-1"},
		{wants(3, 1, 2), "rd r r r r r", "web-1"},
		{wants(3, 1, 0), "rd r", ""},
		{wants(3, 1, 0), "rd r r", "web-1"},
		{wants(3, 1, 0), "rd r r r", "web-1"},
		{wants(0, 1, 1), "rd", "web-1"},
		{wants(0, 1, 2), "rd", "web+1"},
		// it waits until none is old
		{wants(3, 1, 1), "rd ro r", ""},
		{wants(3, 1, 1), "rd ro r r", ""},
		{wants(3, 1, 1), "rd rod r r", ""},
		{wants(3, 1, 1), "rd roe r r", "web+1"},
		{wants(3, 1, 1), "rd roe r r r", "web-1"},
		// Ending ones count neither as on such berths nor as live
		{wants(3, 1, 1), "rde r r r", ""},
		{wants(3, 1, 1), "rd re r r", "web+1"},
		{wants(3, 1, 1), "rd re r", ""},
		{gone(wants(3, 1, 1)), "rd rd rd", ""},
		{gone(wants(3, 1, 1)), "rd rd rd rd", ""},
		// one that waits is on no berth
		{wants(3, 1, 1), "w w w", ""},
	})
}

func TestDrainerChoosesTheFirstThatMayEndOfThoseThere(t *testing.T) {
	checkRequests(t, impl.StewDrainer, []request{
		{wants(3, 0, 1), "rd rd r w", ""},
		{wants(3, 0, 1), "rd rd r r", "web-2"},
		{wants(3, 1, 1), "rd rd r w", "web-2"},
		{wants(3, 1, 1), "rd rd s w", ""},
		{wants(3, 2, 0), "rd rd s", "web-2"},
		{wants(3, 0, 1), "sd rd r w", "web-1"},
		{wants(3, 0, 1), "rd fd r w", "web-2"},
		// those on other berths are left out, though they would end ahead
		{wants(3, 1, 1), "rd r r w", "web-1"},
		{wants(3, 1, 1), "rd r r s", "web-1"},
		{wants(3, 1, 1), "rd f r r", "web-1"},
		// grounds among those there
		{wants(3, 1, 1), "rd sd rd r", "web-2"},
		{wants(3, 1, 1), "sd fd rd r", "web-2"},
		{wants(3, 1, 1), "rd rd rd rd", "web-4"},
		{wants(3, 1, 1), "rd rd rd rde sde r", "web-3"},
	})
}

// many is a book in which each steward asks for something of several services, but not of all of them.
func many() impl.StewBook {
	b := impl.StewBook{Now: 300, Berths: []impl.StewBerth{{Name: "a"}, {Name: "b", Drain: true}}}
	for i, name := range []string{"a-gone", "b-short", "c-old", "d-far", "e-drain", "f-drain", "g-empty", "h-old"} {
		b.Services = append(b.Services, impl.StewService{Name: name, Version: 40 + i, Image: 2, Want: 3, Down: 1, Over: 1, Next: 40,
			Gone: name == "a-gone" || name == "g-empty", Per: 10, Most: 5, Load: 10 * i})
		for n := 1; n <= 4; n++ {
			c := impl.StewCopy{Service: name, Number: 3*n + i, Version: 100 + 10*i + n, Image: 2, State: impl.StewReady, Berth: "a"}
			if name == "g-empty" || name == "b-short" && n > 1 {
				continue
			}
			if n < 3 && strings.HasSuffix(name, "old") {
				c.Image = 1
			}
			if n < 3 && strings.HasSuffix(name, "drain") {
				c.Berth = "b"
			}
			if n == 4 && (name == "a-gone" || name == "d-far" || name == "h-old") {
				c.State = impl.StewFailed
			}
			b.Copies = append(b.Copies, c)
		}
	}
	return b
}

func TestSeveralServicesInOrder(t *testing.T) {
	b := many()
	checkAsk(t, "many", impl.StewCounter, b, "b-short+2 d-far-15")
	checkAsk(t, "many", impl.StewWaver, b, "c-old-8 h-old-13")
	checkAsk(t, "many", impl.StewMender, b, "a-gone-12 d-far-15 h-old-19")
	checkAsk(t, "many", impl.StewScaler, b, "b-short=3/1 c-old=3/1 e-drain=4/0 f-drain=5/0 h-old=5/0")
	checkAsk(t, "many", impl.StewSweeper, b, "a-gone-3-6-9-12 g-empty drop")
	checkAsk(t, "many", impl.StewDrainer, b, "e-drain-10 f-drain-11")
	b = port()
	checkAsk(t, "port", impl.StewCounter, b, "")
	checkAsk(t, "port", impl.StewWaver, b, "api+1")
	checkAsk(t, "port", impl.StewMender, b, "api-12")
	checkAsk(t, "port", impl.StewScaler, b, "api=4/0")
	checkAsk(t, "port", impl.StewSweeper, b, "db drop eve-1-2")
	checkAsk(t, "port", impl.StewDrainer, b, "web+1")
}

func TestSeveralEndsOfSeveralServices(t *testing.T) {
	b := impl.StewBook{Now: 900, Berths: []impl.StewBerth{{Name: "a"}}}
	for i := range impl.StewMaxServices {
		name := "s" + strconv.Itoa(i)
		b.Services = append(b.Services, impl.StewService{Name: name, Version: 1 + i, Gone: true, Image: 1, Over: 1, Next: 26})
		for n := 1; n <= 25; n++ {
			b.Copies = append(b.Copies, impl.StewCopy{Service: name, Number: n, Version: 10*n + i, Image: 1, State: impl.StewFailed, Berth: "a"})
		}
	}
	for _, kind := range []int{impl.StewMender, impl.StewSweeper} {
		acts := asks(t, "a full book", kind, b)
		checkSeen(t, "a full book", b, acts)
		if len(acts) != impl.StewMaxServices || len(acts[0].Ends) != 25 || len(acts[7].Ends) != 25 {
			t.Errorf("steward %d asks for %s", kind, tell(acts))
		}
	}
	b.Services = b.Services[:1]
	b.Services[0].Next = 201
	for i := range b.Copies {
		b.Copies[i].Service, b.Copies[i].Number = "s0", i+1
	}
	for _, kind := range []int{impl.StewMender, impl.StewSweeper} {
		acts := asks(t, "200 copies", kind, b)
		checkSeen(t, "200 copies", b, acts)
		if len(acts) != 1 || len(acts[0].Ends) != impl.StewMaxCopies {
			t.Errorf("steward %d asks for %s", kind, tell(acts))
		}
	}
}

func TestNamesThatBeginAlike(t *testing.T) {
	b := impl.StewBook{Now: 9, Berths: []impl.StewBerth{{Name: "a"}, {Name: "web", Drain: true}}}
	for _, name := range []string{"a", "we", "web", "web-"} {
		b.Services = append(b.Services, impl.StewService{Name: name, Version: 1, Image: 1, Want: 1, Over: 1, Next: 9})
	}
	b.Copies = []impl.StewCopy{{Service: "web", Number: 1, Version: 2, Image: 1, State: impl.StewReady, Berth: "a"}}
	checkAsk(t, "alike", impl.StewCounter, b, "a+1 we+1 web-+1")
	checkAsk(t, "a berth named like the service", impl.StewDrainer, b, "")
	b.Copies[0].Berth = "web"
	checkAsk(t, "on a berth named like the service", impl.StewDrainer, b, "web+1")
	b.Copies[0].Berth, b.Copies[0].State = "", impl.StewWaiting
	checkAsk(t, "on no berth", impl.StewDrainer, b, "")
}

func TestOtherKinds(t *testing.T) {
	for _, kind := range []int{math.MinInt, -6, -1, 0, 7, 8, 100, math.MaxInt} {
		checkAsk(t, "many", kind, many(), "")
		checkAsk(t, "port", kind, port(), "")
		checkAsk(t, "nothing", kind, impl.StewBook{}, "")
	}
	if impl.StewCounter != 1 || impl.StewWaver != 2 || impl.StewMender != 3 || impl.StewScaler != 4 || impl.StewSweeper != 5 || impl.StewDrainer != 6 {
		t.Error("the kinds are not the document's")
	}
}

func TestViewsThatAreNotValid(t *testing.T) {
	for _, spoil := range []change{
		{"now", func(b *impl.StewBook) { b.Now = 52 }},
		{"now below 0", func(b *impl.StewBook) { b.Now = -1 }},
		{"another service's image", func(b *impl.StewBook) { b.Services[4].Image = 0 }},
		{"per below 0", func(b *impl.StewBook) { b.Services[0].Per = -1 }},
		{"least above most", func(b *impl.StewBook) { b.Services[0].Least = 6 }},
		{"services turned round", func(b *impl.StewBook) { b.Services[0], b.Services[1] = b.Services[1], b.Services[0] }},
		{"copies turned round", func(b *impl.StewBook) { b.Copies[10], b.Copies[11] = b.Copies[11], b.Copies[10] }},
		{"no services", func(b *impl.StewBook) { b.Services = nil }},
		{"no berths", func(b *impl.StewBook) { b.Berths = nil }},
		{"too many copies", func(b *impl.StewBook) { *b = crowd(1, impl.StewMaxCopies+1, 0) }},
		{"too many berths", func(b *impl.StewBook) { b.Berths = make([]impl.StewBerth, 1000) }},
	} {
		b := many()
		spoil.do(&b)
		if impl.StewValid(b) {
			t.Fatalf("%s is valid", spoil.name)
		}
		for kind := -1; kind <= 8; kind++ {
			checkAsk(t, spoil.name, kind, b, "")
		}
	}
}

func TestNothingToSee(t *testing.T) {
	for kind := -1; kind <= 8; kind++ {
		checkAsk(t, "nothing", kind, impl.StewBook{}, "")
		checkAsk(t, "berths alone", kind, impl.StewBook{Now: 3, Berths: []impl.StewBerth{{Name: "a", Drain: true}}}, "")
	}
}

// Promise 2, and chapter 5 as a whole.
func TestAsksAgainstTheModel(t *testing.T) {
	r := rand.New(rand.NewSource(2))
	var told [7]int
	var full int
	for range 6000 {
		view := randomView(r)
		for kind := impl.StewCounter; kind <= impl.StewDrainer; kind++ {
			acts := asks(t, "random view", kind, view)
			if got, want := tell(acts), tell(modelAsk(kind, view)); got != want {
				t.Errorf("steward %d asks for %q, want %q", kind, got, want)
			}
			checkSeen(t, "random view", view, acts)
			if t.Failed() {
				t.Fatalf("steward %d in %+v", kind, view)
			}
			told[kind] += len(acts)
			for _, a := range acts {
				if modelFull(view, a) {
					full++
				}
			}
		}
	}
	for kind, n := range told[1:] {
		if n < 200 {
			t.Errorf("steward %d asks %d times alone", kind+1, n)
		}
	}
	if full < 100 {
		t.Errorf("%d acts without room alone", full)
	}
}

// The stewards ask the same again, and what is asked for without room is asked for all the same.
func TestAsksKeepNothing(t *testing.T) {
	b := many()
	for range 3 {
		for kind := impl.StewDrainer; kind >= impl.StewCounter; kind-- {
			first := impl.StewAsk(kind, b)
			if again := impl.StewAsk(kind, b); !reflect.DeepEqual(first, again) {
				t.Errorf("steward %d: %s, then %s", kind, tell(first), tell(again))
			}
		}
	}
	checkAsk(t, "no version left", impl.StewCounter, withNow(b, impl.StewMaxNumber), "b-short+2 d-far-15")
	b.Services[1].Next = impl.StewMaxNumber
	checkAsk(t, "no number left", impl.StewCounter, b, "b-short+2 d-far-15")
}
