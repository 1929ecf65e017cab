package tests

import (
	"fmt"
	"math/rand"
	"strings"

	"loop.example/wharfsteward/impl"
)

// turn is a line, and what the calls that the table of chapter 9 names for it make of a world and answer.
type turn struct {
	line string
	do   func(w impl.StewWorld) (impl.StewWorld, string)
}

// happens is a line that is an event.
func happens(line string, e impl.StewEvent) turn {
	return turn{line, func(w impl.StewWorld) (impl.StewWorld, string) {
		w, codes := impl.StewDo(w, impl.StewMove{Event: e})
		return w, fmt.Sprintf("code %d", codes[0])
	}}
}

// tells is a line that changes nothing.
func tells(line string, answer func(b impl.StewBook) string) turn {
	return turn{line, func(w impl.StewWorld) (impl.StewWorld, string) { return w, answer(w.Book) }}
}

func always(line, answer string) turn {
	return tells(line, func(impl.StewBook) string { return answer })
}

func wishTurn(name string, image, want, down, over int) turn {
	return happens(fmt.Sprintf("wish %s %d %d %d %d", name, image, want, down, over),
		wished(impl.StewService{Name: name, Image: image, Want: want, Down: down, Over: over}))
}

func followTurn(w impl.StewWorld, name string, image, down, over, per, least, most int) turn {
	was, _ := serviceOf(w.Book, name)
	return happens(fmt.Sprintf("follow %s %d %d %d %d %d %d", name, image, down, over, per, least, most),
		wished(impl.StewService{Name: name, Image: image, Want: least, Down: down, Over: over, Per: per, Least: least, Most: most, Load: was.Load}))
}

func leaveTurn(w impl.StewWorld, name string) turn {
	s, there := serviceOf(w.Book, name)
	if !there {
		return always("leave "+name, "code 3")
	}
	s.Gone = true
	return happens("leave "+name, wished(s))
}

func actTurn(steward, age int) turn {
	return turn{fmt.Sprintf("act %d %d", steward, age), func(w impl.StewWorld) (impl.StewWorld, string) {
		w, codes := impl.StewDo(w, impl.StewMove{Steward: steward, Age: age})
		if len(codes) == 0 {
			return w, "-"
		}
		return w, strings.Trim(fmt.Sprint(codes), "[]")
	}}
}

func calmTurn(rounds int) turn {
	return turn{fmt.Sprintf("calm %d", rounds), func(w impl.StewWorld) (impl.StewWorld, string) {
		if rounds > 200 {
			return w, "no"
		}
		w = impl.StewCalm(w, rounds, nil)
		return w, fmt.Sprintf("now %d", w.Book.Now)
	}}
}

func showTurn(name string) turn {
	return tells("show "+name, func(b impl.StewBook) string {
		s, there := serviceOf(b, name)
		if !there {
			return "none"
		}
		n := impl.StewCountOf(b, name)
		return fmt.Sprintf("%d/%d ready %d old %d ending %d", n.Live, s.Want, n.Ready, n.Old, n.Ending)
	})
}

func rankTurn() turn {
	return tells("rank", func(b impl.StewBook) string {
		n := impl.StewRank(b)
		answer := fmt.Sprintf("%d %d %d %d %d", n[0], n[1], n[2], n[3], n[4])
		if impl.StewDone(b) {
			answer += " done"
		}
		return answer
	})
}

// randomTurn is a line that most often means something in w.
func randomTurn(r *rand.Rand, w impl.StewWorld) turn {
	if r.Intn(15) == 0 {
		return always(randomBad(r), "bad")
	}
	services := []string{"api", "db", "eve", "web", "api", "db", "eve", "web", "WEB", "a"}
	berths := []string{"a", "b", "c", "a", "b", "c", "d", "web", "_"}
	service, berth := services[r.Intn(len(services))], berths[r.Intn(len(berths))]
	switch r.Intn(20) {
	case 0, 1:
		return wishTurn(service, few(r, 3), few(r, 5), few(r, 3), few(r, 3))
	case 2, 3:
		least := few(r, 4)
		most := min(max(least+few(r, 6)-1, 0), 9999999)
		return followTurn(w, service, few(r, 3), few(r, 3), few(r, 3), few(r, 20), least, most)
	case 4:
		return leaveTurn(w, service)
	case 5, 6:
		return happens("berth "+berth, raised(berth, false))
	case 7:
		return happens("drain "+berth, raised(berth, true))
	case 8:
		return happens("sink "+berth, sunk(berth))
	case 9:
		number := few(r, 9)
		return happens(fmt.Sprintf("fail %s %d", service, number), failed(service, number))
	case 10:
		load := few(r, 120)
		return happens(fmt.Sprintf("load %s %d", service, load), loaded(service, load))
	case 11, 12:
		return happens("tick", impl.StewEvent{Kind: impl.StewTick})
	case 13, 14, 15, 16:
		return actTurn(1+r.Intn(6), max(0, few(r, 18)-9))
	case 17:
		return calmTurn([]int{0, 1, 1, 2, 3, 10, 201}[r.Intn(7)])
	case 18:
		return rankTurn()
	}
	return showTurn(service)
}

// few is a number up to most, seldom a far greater one.
func few(r *rand.Rand, most int) int {
	if r.Intn(40) == 0 {
		return []int{10, 11, 1000000, 1000001, 9999999}[r.Intn(5)]
	}
	return r.Intn(most + 1)
}

// randomBad is a line that is none.
func randomBad(r *rand.Rand) string {
	if r.Intn(2) == 0 {
		f := forms[r.Intn(len(forms))]
		lines := f.spoilt()
		return lines[r.Intn(len(lines))]
	}
	line := make([]byte, r.Intn(6))
	for i := range line {
		line[i] = " \x00\r\t19azA\xff\xc3-"[r.Intn(12)]
	}
	return string(line)
}

// randomSession is drawn lines, and what they are answered.
func randomSession(r *rand.Rand, size int) (lines, answers []string) {
	var w impl.StewWorld
	for range size {
		next := randomTurn(r, w)
		var answer string
		w, answer = next.do(w)
		lines, answers = append(lines, next.line), append(answers, answer)
	}
	return lines, answers
}
