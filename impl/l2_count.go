package impl

import (
	"cmp"
	"iter"
	"slices"
)

// StewCount is how many copies of a service there are.
type StewCount struct {
	Live   int
	Ready  int
	Old    int
	Failed int
	Ending int
}

// StewCountOf counts the copies of a service.
func StewCountOf(b StewBook, service string) StewCount {
	if !StewValid(b) {
		return StewCount{}
	}
	at, there := placesIn(b)[thing{serviceThing, service}]
	if !there {
		return StewCount{}
	}
	return countCopies(b, b.Services[at])
}

// countCopies counts in a book that is known to be valid.
func countCopies(b StewBook, s StewService) StewCount {
	var n StewCount
	for c := range copiesIn(b, s.Name) {
		if c.Ending {
			n.Ending++
			continue
		}
		n.Live++
		if c.State == StewReady {
			n.Ready++
		}
		if c.Image != s.Image {
			n.Old++
		}
		if c.State == StewFailed {
			n.Failed++
		}
	}
	return n
}

// copiesIn walks over the copies of a service, in their order. It passes over
// all others: in a valid book those of a service stand together.
func copiesIn(b StewBook, service string) iter.Seq[StewCopy] {
	return func(yield func(StewCopy) bool) {
		first, _ := slices.BinarySearchFunc(b.Copies, service, func(c StewCopy, name string) int {
			return cmp.Compare(c.Service, name)
		})
		for _, c := range b.Copies[first:] {
			if c.Service != service || !yield(c) {
				return
			}
		}
	}
}
