package tests

import (
	"sort"

	"loop.example/wharfsteward/impl"
)

// modelApply does an act by the words of chapter 4, one code after the other; each end is asked for by StewMayEnd in a
// book in which the ends ahead of it are done.
func modelApply(b impl.StewBook, a impl.StewAct) (impl.StewBook, int) {
	if !impl.StewValid(b) {
		return impl.StewBook{}, 1
	}
	for _, ground := range []struct {
		code int
		met  func(impl.StewBook, impl.StewAct) bool
	}{{2, modelShape}, {3, modelAbsent}, {4, modelLate}, {5, modelHarm}, {6, modelBarred}, {7, modelFull}} {
		if ground.met(b, a) {
			return copyBook(b), ground.code
		}
	}
	return modelDone(b, a), 0
}

func modelShape(_ impl.StewBook, a impl.StewAct) bool {
	for i, e := range a.Ends {
		for _, f := range a.Ends[:i] {
			if f.Number >= e.Number {
				return true
			}
		}
	}
	still := a.Want == 0 && a.Cool == 0
	bound := a.Want >= 0 && a.Want <= 10 && a.Cool >= 0 && a.Cool <= 3
	return a.Create < 0 || a.Create > 20 || len(a.Ends) > 200 || !a.Scale && !still || a.Scale && !bound ||
		a.Drop && (a.Create != 0 || a.Scale || len(a.Ends) > 0)
}

func modelAbsent(b impl.StewBook, a impl.StewAct) bool {
	_, there := serviceOf(b, a.Service)
	for _, e := range a.Ends {
		there = there && placeOf(b, a.Service, e.Number) >= 0
	}
	return !there
}

func modelLate(b impl.StewBook, a impl.StewAct) bool {
	s, _ := serviceOf(b, a.Service)
	late := s.Version != a.Seen
	for _, e := range a.Ends {
		late = late || b.Copies[placeOf(b, a.Service, e.Number)].Version != e.Seen
	}
	return late
}

func modelHarm(b impl.StewBook, a impl.StewAct) bool {
	b = copyBook(b)
	for _, e := range a.Ends {
		if !impl.StewMayEnd(b, a.Service, e.Number) {
			return true
		}
		b.Copies[placeOf(b, a.Service, e.Number)].Ending = true
	}
	return false
}

func modelBarred(b impl.StewBook, a impl.StewAct) bool {
	s, _ := serviceOf(b, a.Service)
	all, live := 0, -len(a.Ends)
	for _, c := range b.Copies {
		if c.Service == a.Service {
			all++
			if !c.Ending {
				live++
			}
		}
	}
	want := s.Want
	if a.Scale {
		want = a.Want
	}
	return a.Drop && (!s.Gone || all > 0) ||
		a.Create != 0 && (s.Gone || live+a.Create > want+s.Over) ||
		a.Scale && (s.Per == 0 || a.Want < s.Least || a.Want > s.Most)
}

func modelFull(b impl.StewBook, a impl.StewAct) bool {
	s, _ := serviceOf(b, a.Service)
	return len(b.Copies)+a.Create > 200 || s.Next+a.Create > 1000000 || b.Now == 1000000
}

func modelDone(b impl.StewBook, a impl.StewAct) impl.StewBook {
	b = copyBook(b)
	b.Now++
	for _, e := range a.Ends {
		c := &b.Copies[placeOf(b, a.Service, e.Number)]
		c.Ending, c.Version = true, b.Now
	}
	var kept []impl.StewService
	for _, s := range b.Services {
		if s.Name == a.Service {
			s.Version = b.Now
			if a.Scale {
				s.Want, s.Cool = a.Want, a.Cool
			}
			for range a.Create {
				b.Copies = append(b.Copies, impl.StewCopy{Service: s.Name, Number: s.Next, Version: b.Now, Image: s.Image, State: 1})
				s.Next++
			}
		}
		if s.Name != a.Service || !a.Drop {
			kept = append(kept, s)
		}
	}
	b.Services = kept
	sort.Slice(b.Copies, func(i, j int) bool {
		c, d := b.Copies[i], b.Copies[j]
		return c.Service < d.Service || c.Service == d.Service && c.Number < d.Number
	})
	return b
}
