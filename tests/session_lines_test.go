package tests

import (
	"math/rand"
	"regexp"
	"strings"
	"testing"

	"loop.example/wharfsteward/impl"
)

// form is a line as it should be; the last so many of its words are numbers.
type form struct {
	line    string
	numbers int
}

var forms = []form{
	{"wish web 1 3 1 1", 4}, {"follow web 1 1 1 10 1 4", 6}, {"leave web", 0}, {"berth a", 0}, {"drain a", 0}, {"sink a", 0},
	{"fail web 1", 1}, {"load web 1", 1}, {"tick", 0}, {"act 1 0", 2}, {"calm 1", 1}, {"show web", 0}, {"rank", 0},
}

// noNumbers are words that are no N.
var noNumbers = []string{"", "01", "00", "000", "0000001", "+1", "-1", "-0", "+0", "+", "-", "x", "1x", "x1", "0x1", "1_0", "1e1", "1.", "1.0", "1,0",
	"12345678", "10000000", "00000001", "99999999999999999999", "18446744073709551617", "\x00", "1\x00", "1\r", "1\t", "\xff", "１", "٣", "½"}

// spoilt are lines that are none, each near to the form.
func (f form) spoilt() []string {
	words := strings.Split(f.line, " ")
	lines := []string{
		f.line + " ", " " + f.line, f.line + " 1", f.line + " x", f.line + "  1", "\t" + f.line, "\x00" + f.line, "\ufeff" + f.line,
		strings.ToUpper(f.line), "x" + f.line, words[0] + "s" + f.line[len(words[0]):], words[0][1:] + f.line[len(words[0]):],
		words[0] + "\r" + f.line[len(words[0]):], f.line + " \r", strings.ReplaceAll(f.line, " ", "  ") + " ",
	}
	for i := 1; i < len(words); i++ {
		ahead, behind := strings.Join(words[:i], " "), strings.Join(words[i:], " ")
		lines = append(lines, ahead, ahead+" ", ahead+"  "+behind)
		if i == 1 || i >= len(words)-f.numbers {
			lines = append(lines, ahead+"\t"+behind, ahead+behind)
		}
		if i >= len(words)-f.numbers {
			for _, wrong := range noNumbers {
				lines = append(lines, strings.Join(append(append(append([]string{}, words[:i]...), wrong), words[i+1:]...), " "))
			}
		}
	}
	if f.numbers > 0 || len(words) == 1 {
		lines = append(lines, f.line+"\r", f.line+"\x00", f.line+"\xff")
	}
	return lines
}

// checkBad fails if the line is not answered bad, or leaves a trace.
func checkBad(t *testing.T, line string) {
	t.Helper()
	before, said := "berth a\nwish web 1 3 1 1\n", "code 0\ncode 0\n"
	checkSession(t, "in between", before+line+"\ncalm 0\nshow web\nact 1 2\n", said+"bad\nnow 2\n0/3 ready 0 old 0 ending 0\n-\n")
	checkSession(t, "at first", line+"\n"+before, "bad\n"+said)
	checkSession(t, "at last", before+line+"\n", said+"bad\n")
	if line != "" {
		checkSession(t, "at last, without a newline", before+line, said+"bad\n")
	}
}

func TestLinesThatAreNone(t *testing.T) {
	for _, line := range []string{"", " ", "  ", "\t", "\r", "\x00", "\xff", "\xc3", "x", "zap", "1", "0", "-", "bad", "no", "none", "now 0", "code 0", "too long",
		"ticks", "Tick", "TICK", "tic", "t", "raise a", "gone web", "age 1", "tick tick", "tick\rtick", "tick\x00", "tick\r", "rank\r", "ra nk",
		"act 0 0", "act 7 0", "act 10 0", "act 9999999 0", "act 1", "act", "act 1 0 0", "act web 0", "act 1 web", "act -1 0", "act 1 -1",
		"calm", "calm 1 1", "calm -1", "calm 00", "calm 0200", "show", "show web db", "show web 1", "rank 1", "rank web",
		"wish 1 3 1 1", "wish web 1 3 1", "wish web 1 3 1 1 0", "wish web db 3 1 1", "follow web 1 1 1 10 1", "follow web 1 1 1 10 1 4 0",
		"leave", "leave web db", "berth", "berth a b", "drain", "drain a 1", "sink", "sink a b", "fail web", "fail 1", "fail web 1 1", "fail web web",
		"load web", "load web 1 1", "load 1 web", strings.Repeat("tick", 1000), strings.Repeat("tick ", 1000) + "tick", strings.Repeat(" ", 5000)} {
		checkBad(t, line)
	}
}

func TestLinesThatAreNearlyRight(t *testing.T) {
	for _, f := range forms {
		if got := impl.StewSession(f.line); got == "bad\n" || !answerForm.MatchString(strings.TrimSuffix(got, "\n")) {
			t.Errorf("%q is answered %q", f.line, got)
		}
		for _, line := range f.spoilt() {
			checkBad(t, line)
		}
	}
}

func TestNumbersOfEachSize(t *testing.T) {
	for _, number := range []string{"0", "1", "9", "10", "99", "100", "1000", "10000", "100000", "999999", "1000000", "9999999"} {
		for _, f := range forms {
			words := strings.Split(f.line, " ")
			for i := len(words) - f.numbers; i < len(words); i++ {
				if words[0] == "act" && i == 1 {
					continue
				}
				line := strings.Join(append(append(append([]string{}, words[:i]...), number), words[i+1:]...), " ")
				if got := impl.StewSession(line); got == "bad\n" {
					t.Errorf("%q is answered %q", line, got)
				}
			}
		}
	}
}

func TestEachByteInALine(t *testing.T) {
	for n := range 256 {
		c := string([]byte{byte(n)})
		if c == "\n" {
			continue
		}
		for _, line := range []string{c, "tick" + c, c + "tick", "ti" + c + "ck", "act" + c + "1" + c + "0" + c, "calm 1 " + c} {
			checkSession(t, "a byte", line, "bad\n")
		}
		named := 'a' <= n && n <= 'z' || '0' <= n && n <= '9' || n == '-'
		want := map[bool]string{true: "code 0\n", false: "code 2\n"}[named]
		if c == " " {
			want = "bad\n"
		}
		checkSession(t, "a name", "berth "+c, want)
		checkSession(t, "a name", "berth a"+c, want)
		if '0' <= n && n <= '9' {
			checkSession(t, "a digit", "calm "+c, "now "+c+"\n")
		} else {
			checkSession(t, "no digit", "calm "+c, "bad\n")
			checkSession(t, "no digit ahead", "calm "+c+"1", "bad\n")
			checkSession(t, "no digit behind", "calm 1"+c, "bad\n")
		}
	}
}

func TestHowTextsAreCut(t *testing.T) {
	checkSession(t, "nothing", "", "")
	checkSession(t, "a line without a newline", "tick", "code 0\n")
	checkSession(t, "a line with a newline", "tick\n", "code 0\n")
	checkSession(t, "an empty line behind", "tick\n\n", "code 0\nbad\n")
	checkSession(t, "an empty line ahead", "\ntick", "bad\ncode 0\n")
	checkSession(t, "an empty line between", "tick\n\ntick", "code 0\nbad\ncode 0\n")
	checkSession(t, "a space behind", "tick\n ", "code 0\nbad\n")
	checkSession(t, "carriage returns", "tick\r\ntick\r\n", "bad\nbad\n")
	checkSession(t, "carriage returns alone", "tick\rtick\r", "bad\n")
	checkSession(t, "other ends of lines", "tick\u2028tick\vtick\f", "bad\n")
	for _, n := range []int{1, 2, 3, 10, impl.StewMaxLines} {
		checkSession(t, "newlines alone", strings.Repeat("\n", n), strings.Repeat("bad\n", n))
	}
}

func TestHowManyLines(t *testing.T) {
	const most = impl.StewMaxLines
	for _, c := range []struct{ line, answer string }{{"x", "bad\n"}, {"rank", "0 0 0 0 0 done\n"}, {"tick", "code 0\n"}, {"show web", "none\n"}} {
		row := strings.Repeat(c.line+"\n", most-1) + c.line
		all := strings.Repeat(c.answer, most)
		checkSession(t, "just as many, without a newline", row, all)
		checkSession(t, "just as many", row+"\n", all)
		checkSession(t, "an empty one more", row+"\n\n", "too long\n")
		checkSession(t, "one more, without a newline", row+"\n"+c.line, "too long\n")
		checkSession(t, "one more", row+"\n"+c.line+"\n", "too long\n")
		checkSession(t, "one less", row[:len(row)-len(c.line)], strings.Repeat(c.answer, most-1))
	}
	checkSession(t, "newlines alone, one more", strings.Repeat("\n", most+1), "too long\n")
	checkSession(t, "as many newlines as bytes", strings.Repeat("\n", impl.StewMaxSession), "too long\n")
	checkSession(t, "far too many", strings.Repeat("\n", 1000000), "too long\n")
}

func TestHowManyBytes(t *testing.T) {
	const most = impl.StewMaxSession
	line := func(size int) string { return "show " + strings.Repeat("a", size-5) }
	checkSession(t, "one line", line(most), "none\n")
	checkSession(t, "one line with a newline", line(most-1)+"\n", "none\n")
	checkSession(t, "one line, one more", line(most+1), "too long\n")
	checkSession(t, "one line, a newline more", line(most)+"\n", "too long\n")
	checkSession(t, "no line, just as many", strings.Repeat("x", most), "bad\n")
	checkSession(t, "no line, one more", strings.Repeat("x", most+1), "too long\n")
	checkSession(t, "spaces", strings.Repeat(" ", most), "bad\n")
	checkSession(t, "spaces, one more", strings.Repeat(" ", most+1), "too long\n")
	checkSession(t, "bytes, not letters, just as many", strings.Repeat("ü", most/2), "bad\n")
	checkSession(t, "bytes, not letters, one more", strings.Repeat("ü", most/2)+"x", "too long\n")
	checkSession(t, "far too many", strings.Repeat("tick\n", 1000000), "too long\n")
	const each = most / impl.StewMaxLines
	row := strings.Repeat(line(each-1)+"\n", impl.StewMaxLines)
	said := strings.Repeat("none\n", impl.StewMaxLines)
	if len(row) != most {
		t.Fatalf("%d bytes", len(row))
	}
	checkSession(t, "both just as many", row, said)
	checkSession(t, "both just as many, without a newline", row[:most-1]+"a", said)
	checkSession(t, "without a newline, one more", row[:most-1]+"aa", "too long\n")
	checkSession(t, "one more", row[:most-1]+"a\n", "too long\n")
	checkSession(t, "one more ahead", "a"+row, "too long\n")
	checkSession(t, "fewer lines, just as many bytes", row[:most/2]+line(most/2), strings.Repeat("none\n", impl.StewMaxLines/2+1))
	checkSession(t, "fewer lines, one byte more", row[:most/2]+line(most/2+1), "too long\n")
}

// answerForm is what a line may be answered.
var answerForm = regexp.MustCompile(`^(bad|no|none|-|code [0-7]|[0-7]( [0-7])*|now \d+|\d+/\d+ ready \d+ old \d+ ending \d+|\d+( \d+){4}( done)?)$`)

// Promise 11.
func TestFirstLinesAreAnsweredAlike(t *testing.T) {
	r := rand.New(rand.NewSource(1111))
	for range 60 {
		lines, _ := randomSession(r, r.Intn(40))
		whole := strings.SplitAfter(impl.StewSession(asText(lines)), "\n")
		for n := range len(lines) + 1 {
			text, want := asText(lines[:n]), strings.Join(whole[:n], "")
			checkSession(t, "the first lines", text, want)
			if n > 0 && lines[n-1] != "" {
				checkSession(t, "the first lines, without a newline", text[:len(text)-1], want)
			}
			if t.Failed() {
				t.FailNow()
			}
		}
	}
}

// Promise 11.
func TestFirstLinesOfALongSession(t *testing.T) {
	r := rand.New(rand.NewSource(1112))
	for range 3 {
		lines, _ := randomSession(r, impl.StewMaxLines)
		whole := strings.SplitAfter(impl.StewSession(asText(lines)), "\n")
		for _, n := range []int{0, 1, 2, 100, 250, impl.StewMaxLines - 1, impl.StewMaxLines} {
			checkSession(t, "the first lines", asText(lines[:n]), strings.Join(whole[:n], ""))
		}
		checkSession(t, "too long with one more", asText(lines)+"tick", "too long\n")
	}
}

// Promise 11.
func TestEveryTextIsAnswered(t *testing.T) {
	r := rand.New(rand.NewSource(1113))
	pieces := []string{"\n", "\n", "\n", " ", " ", "\x00", "\r", "\xff", "0", "1", "3", "7", "10", "a", "b", "web", "wish web 1 3 1 1", "follow web 1 1 1 10 1 4",
		"leave", "berth", "drain a", "sink", "fail web 1", "load web 35", "tick", "act", "act 1", "calm", "calm 1", "show web", "rank"}
	for range 3000 {
		var text strings.Builder
		for range r.Intn(60) {
			text.WriteString(pieces[r.Intn(len(pieces))])
		}
		lines := strings.Count(text.String(), "\n")
		if text.Len() > 0 && !strings.HasSuffix(text.String(), "\n") {
			lines++
		}
		got := strings.Split(impl.StewSession(text.String()), "\n")
		if len(got) != lines+1 || got[lines] != "" {
			t.Fatalf("%q: %d lines are answered %q", text.String(), lines, got)
		}
		for _, answer := range got[:lines] {
			if !answerForm.MatchString(answer) {
				t.Fatalf("%q is answered %q", text.String(), answer)
			}
		}
	}
}

func TestSessionsKeepNothing(t *testing.T) {
	r := rand.New(rand.NewSource(1114))
	var texts, answers []string
	for range 20 {
		lines, _ := randomSession(r, 50)
		texts = append(texts, asText(lines))
		answers = append(answers, impl.StewSession(asText(lines)))
	}
	for i := range texts {
		checkSession(t, "again", texts[i], answers[i])
	}
	var told []chan string
	for _, text := range texts {
		c := make(chan string)
		told = append(told, c)
		go func() { c <- impl.StewSession(text) }()
	}
	for i, c := range told {
		if got := <-c; got != answers[i] {
			t.Errorf("beside others: %q is answered %q, want %q", texts[i], got, answers[i])
		}
	}
}

func TestLimitsOfSessionsAreTheDocuments(t *testing.T) {
	if impl.StewMaxSession != 20000 || impl.StewMaxLines != 400 {
		t.Errorf("%d bytes, %d lines", impl.StewMaxSession, impl.StewMaxLines)
	}
}

func TestTheLongestCalm(t *testing.T) {
	got := impl.StewSession(strings.Repeat("calm 200\n", impl.StewMaxLines))
	if !strings.HasPrefix(got, "now 200\nnow 400\n") || !strings.HasSuffix(got, "now 79800\nnow 80000\n") {
		t.Errorf("%q", got)
	}
}
