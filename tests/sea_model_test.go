package tests

import (
	"math/rand"
	"sort"

	"loop.example/wharfsteward/impl"
)

// modelSea lets an event happen by the words of chapter 6, leaning on StewValid for code 2.
func modelSea(b impl.StewBook, e impl.StewEvent) (impl.StewBook, int) {
	switch {
	case !impl.StewValid(b):
		return impl.StewBook{}, 1
	case e.Kind < 1 || e.Kind > 6:
		return b, 4
	case b.Now == impl.StewMaxNumber:
		return b, 7
	}
	after := copyBook(b)
	after.Now = b.Now + 1
	kinds := []func(b *impl.StewBook, e impl.StewEvent) bool{modelTick, modelWish, modelFails, modelSink, modelRaise, modelLoad}
	if !kinds[e.Kind-1](&after, e) {
		return b, 3
	}
	if !impl.StewValid(after) {
		return b, 2
	}
	return after, 0
}

func modelTick(b *impl.StewBook, _ impl.StewEvent) bool {
	var left []impl.StewCopy
	for _, c := range b.Copies {
		if c.State == impl.StewStarting {
			c.State, c.Version = impl.StewReady, b.Now
		}
		if !c.Ending {
			left = append(left, c)
		}
	}
	b.Copies = left
	for i := range left {
		berth := modelBerth(*b)
		if left[i].State == impl.StewWaiting && berth != "" {
			left[i].State, left[i].Berth, left[i].Version = impl.StewStarting, berth, b.Now
		}
	}
	return true
}

// modelBerth is the berth for the next copy as the book is; empty if there is none.
func modelBerth(b impl.StewBook) string {
	fewest, name := -1, ""
	for _, berth := range b.Berths {
		stand := 0
		for _, c := range b.Copies {
			if c.Berth == berth.Name {
				stand++
			}
		}
		if !berth.Drain && (fewest < 0 || stand < fewest) {
			fewest, name = stand, berth.Name
		}
	}
	return name
}

func modelWish(b *impl.StewBook, e impl.StewEvent) bool {
	w := e.Service
	for i := range b.Services {
		if s := &b.Services[i]; s.Name == w.Name {
			s.Version, s.Gone, s.Image, s.Want, s.Down, s.Over = b.Now, w.Gone, w.Image, w.Want, w.Down, w.Over
			s.Per, s.Least, s.Most, s.Load, s.Cool = w.Per, w.Least, w.Most, w.Load, 0
			return true
		}
	}
	b.Services = append(b.Services, impl.StewService{Name: w.Name, Version: b.Now, Gone: w.Gone, Image: w.Image, Want: w.Want,
		Down: w.Down, Over: w.Over, Next: 1, Per: w.Per, Least: w.Least, Most: w.Most, Load: w.Load})
	sort.Slice(b.Services, func(i, j int) bool { return b.Services[i].Name < b.Services[j].Name })
	return true
}

func modelFails(b *impl.StewBook, e impl.StewEvent) bool {
	at := placeOf(*b, e.Name, e.Number)
	if at < 0 || b.Copies[at].State != impl.StewReady && b.Copies[at].State != impl.StewStarting {
		return false
	}
	b.Copies[at].State, b.Copies[at].Version = impl.StewFailed, b.Now
	return true
}

func modelSink(b *impl.StewBook, e impl.StewEvent) bool {
	var berths []impl.StewBerth
	for _, berth := range b.Berths {
		if berth.Name != e.Name {
			berths = append(berths, berth)
		}
	}
	var copies []impl.StewCopy
	for _, c := range b.Copies {
		if c.Berth != e.Name {
			copies = append(copies, c)
		}
	}
	there := len(berths) < len(b.Berths)
	b.Berths, b.Copies = berths, copies
	return there
}

func modelRaise(b *impl.StewBook, e impl.StewEvent) bool {
	for i := range b.Berths {
		if b.Berths[i].Name == e.Name {
			b.Berths[i].Drain = e.Flag
			return true
		}
	}
	b.Berths = append(b.Berths, impl.StewBerth{Name: e.Name, Drain: e.Flag})
	sort.Slice(b.Berths, func(i, j int) bool { return b.Berths[i].Name < b.Berths[j].Name })
	return true
}

func modelLoad(b *impl.StewBook, e impl.StewEvent) bool {
	for i := range b.Services {
		if s := &b.Services[i]; s.Name == e.Name && s.Per != 0 {
			s.Load, s.Version = e.Number, b.Now
			return true
		}
	}
	return false
}

// randomEvent is an event that means something in a random book, or one that is somewhat off.
func randomEvent(r *rand.Rand) impl.StewEvent {
	names := []string{"a", "api", "b", "c", "db", "d0", "web", "Z", ""}
	e := impl.StewEvent{Kind: 1 + r.Intn(6), Name: names[r.Intn(7)], Number: 1 + r.Intn(8), Flag: r.Intn(2) == 0}
	if e.Kind == impl.StewFails || e.Kind == impl.StewLoad {
		e.Name = []string{"api", "db", "web"}[r.Intn(3)]
	}
	e.Service = impl.StewService{Name: names[r.Intn(7)], Version: r.Intn(90), Gone: r.Intn(4) == 0, Image: 1 + r.Intn(3),
		Want: r.Intn(6), Down: r.Intn(3), Over: 1 + r.Intn(2), Next: r.Intn(90), Cool: r.Intn(9)}
	if r.Intn(2) == 0 {
		e.Service.Per, e.Service.Least, e.Service.Load = 1+r.Intn(20), r.Intn(3), r.Intn(100)
		e.Service.Most = e.Service.Least + r.Intn(4)
	}
	switch r.Intn(20) {
	case 0:
		e.Kind = r.Intn(12) - 3
	case 1:
		e.Name, e.Service.Name = names[r.Intn(9)], names[r.Intn(9)]
	case 2:
		e.Number = []int{-1, 0, impl.StewMaxLoad, impl.StewMaxLoad + 1}[r.Intn(4)]
	case 3:
		e.Service.Want = 9 + r.Intn(3)
	case 4:
		e.Service.Per = 0
	}
	return e
}
