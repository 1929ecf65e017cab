package tests

import (
	"math/rand"
	"sort"

	"loop.example/wharfsteward/impl"
)

// modelAsk asks by the words of chapter 5, leaning on StewCountOf and StewMayEnd in the view.
func modelAsk(kind int, view impl.StewBook) []impl.StewAct {
	if !impl.StewValid(view) {
		return nil
	}
	var acts []impl.StewAct
	for _, s := range view.Services {
		a, numbers := modelAsksOf(kind, view, s)
		if a.Create != 0 || a.Scale || a.Drop || len(numbers) > 0 {
			acts = append(acts, asked(view, s.Name, a, numbers...))
		}
	}
	return acts
}

func modelAsksOf(kind int, view impl.StewBook, s impl.StewService) (impl.StewAct, []int) {
	n := impl.StewCountOf(view, s.Name)
	drained := len(modelLive(view, s, func(c impl.StewCopy) bool { return modelDrained(view, c) }))
	switch {
	case kind == 3:
		return impl.StewAct{}, modelNumbers(modelLive(view, s, func(c impl.StewCopy) bool { return c.State == impl.StewFailed }))
	case kind == 5 && s.Gone:
		return impl.StewAct{Drop: n.Live+n.Ending == 0}, modelNumbers(modelLive(view, s, func(impl.StewCopy) bool { return true }))
	case s.Gone:
		return impl.StewAct{}, nil
	case kind == 1:
		return modelCounter(view, s, n, drained)
	case kind == 2 && n.Old > 0 && n.Live >= s.Want:
		return modelReplace(view, s, n, func(c impl.StewCopy) bool { return c.Image != s.Image })
	case kind == 4 && s.Per > 0:
		return modelScaler(s), nil
	case kind == 6 && n.Old == 0 && drained > 0 && n.Live >= s.Want:
		return modelReplace(view, s, n, func(c impl.StewCopy) bool { return modelDrained(view, c) })
	}
	return impl.StewAct{}, nil
}

func modelCounter(view impl.StewBook, s impl.StewService, n impl.StewCount, drained int) (impl.StewAct, []int) {
	if n.Live < s.Want {
		return impl.StewAct{Create: s.Want - n.Live}, nil
	}
	if n.Live > s.Want && (n.Old == 0 && drained == 0 || n.Live > s.Want+s.Over) {
		first := modelFirst(view, s, modelLive(view, s, func(impl.StewCopy) bool { return true }))
		if impl.StewMayEnd(view, s.Name, first) {
			return impl.StewAct{}, []int{first}
		}
	}
	return impl.StewAct{}, nil
}

func modelReplace(view impl.StewBook, s impl.StewService, n impl.StewCount, meant func(impl.StewCopy) bool) (impl.StewAct, []int) {
	if n.Live < s.Want+s.Over {
		return impl.StewAct{Create: 1}, nil
	}
	left := modelLive(view, s, func(c impl.StewCopy) bool { return meant(c) && impl.StewMayEnd(view, s.Name, c.Number) })
	if len(left) == 0 {
		return impl.StewAct{}, nil
	}
	return impl.StewAct{}, []int{modelFirst(view, s, left)}
}

func modelDue(s impl.StewService) int {
	due := 0
	for due < s.Most && (due < s.Least || due*s.Per < s.Load) {
		due++
	}
	return due
}

func modelScaler(s impl.StewService) impl.StewAct {
	due := modelDue(s)
	switch {
	case s.Want < s.Least:
		return impl.StewAct{Scale: true, Want: s.Least}
	case s.Want > s.Most:
		return impl.StewAct{Scale: true, Want: s.Most}
	case due > s.Want:
		return impl.StewAct{Scale: true, Want: due}
	case due < s.Want && s.Cool == impl.StewCool:
		return impl.StewAct{Scale: true, Want: s.Want - 1}
	case due < s.Want:
		return impl.StewAct{Scale: true, Want: s.Want, Cool: s.Cool + 1}
	case s.Cool > 0:
		return impl.StewAct{Scale: true, Want: s.Want}
	}
	return impl.StewAct{}
}

func modelLive(view impl.StewBook, s impl.StewService, meant func(impl.StewCopy) bool) []impl.StewCopy {
	var live []impl.StewCopy
	for _, c := range view.Copies {
		if c.Service == s.Name && !c.Ending && meant(c) {
			live = append(live, c)
		}
	}
	return live
}

func modelNumbers(copies []impl.StewCopy) []int {
	var numbers []int
	for _, c := range copies {
		numbers = append(numbers, c.Number)
	}
	return numbers
}

func modelDrained(view impl.StewBook, c impl.StewCopy) bool {
	for _, berth := range view.Berths {
		if berth.Name == c.Berth {
			return berth.Drain
		}
	}
	return false
}

// modelFirst weighs each ground above all that come behind it.
func modelFirst(view impl.StewBook, s impl.StewService, copies []impl.StewCopy) int {
	weight := func(c impl.StewCopy) int {
		w := c.Number
		if modelDrained(view, c) {
			w += 10000000
		}
		if c.Image != s.Image {
			w += 20000000
		}
		if c.State != impl.StewReady {
			w += 40000000
		}
		return w
	}
	copies = append([]impl.StewCopy(nil), copies...)
	sort.Slice(copies, func(i, j int) bool { return weight(copies[i]) > weight(copies[j]) })
	return copies[0].Number
}

// randomView is a random book, now and then close to where no act is done any more (code 7).
func randomView(r *rand.Rand) impl.StewBook {
	b := randomBook(r)
	b.Berths[0].Drain = r.Intn(4) == 0
	switch r.Intn(12) {
	case 0:
		b.Now = impl.StewMaxNumber - r.Intn(2)
	case 1:
		b.Services[r.Intn(3)].Next = impl.StewMaxNumber - r.Intn(2)
	case 2:
		zoo := impl.StewService{Name: "zoo", Version: 1, Image: 1, Want: 10, Over: 10, Next: 200}
		b.Services = append(b.Services, zoo)
		for n := 1; len(b.Copies) < impl.StewMaxCopies-r.Intn(2); n++ {
			b.Copies = append(b.Copies, randomCopy(r, "zoo", n))
		}
	}
	return b
}
