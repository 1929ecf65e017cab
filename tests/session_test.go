package tests

import (
	"fmt"
	"math/rand"
	"strings"
	"testing"

	"loop.example/wharfsteward/impl"
)

// asText is these lines, each with a newline.
func asText(lines []string) string {
	var text strings.Builder
	for _, line := range lines {
		text.WriteString(line + "\n")
	}
	return text.String()
}

func checkSession(t *testing.T, title, text, want string) {
	t.Helper()
	if got := impl.StewSession(text); got != want {
		t.Errorf("%s: %q is answered\n%q, want\n%q", title, text, got, want)
	}
}

// checkTalk holds a session against a row of lines, each with its answer behind it.
func checkTalk(t *testing.T, title string, talk ...string) {
	t.Helper()
	var lines []string
	for i := 0; i < len(talk); i += 2 {
		lines = append(lines, talk[i])
	}
	got := strings.Split(impl.StewSession(asText(lines)), "\n")
	for i, line := range lines {
		if i >= len(got) || got[i] != talk[2*i+1] {
			t.Fatalf("%s: line %d, %q, is answered %q, want %q", title, i, line, got[min(i, len(got)-1)], talk[2*i+1])
		}
	}
	if len(got) != len(lines)+1 || got[len(lines)] != "" {
		t.Errorf("%s: behind the answers is %q", title, got[len(lines):])
	}
}

func TestTheExampleOfASession(t *testing.T) {
	text := "berth a\nberth b\nwish web 1 3 1 1\nact 1 0\nact 1 1\ntick\ntick\nshow web\nwish web 2 3 1 1\ncalm 3\nshow web\ncalm 20\nshow web\nrank"
	want := "code 0\ncode 0\ncode 0\n0\n4\ncode 0\ncode 0\n3/3 ready 3 old 0 ending 0\ncode 0\nnow 13\n4/3 ready 3 old 2 ending 0\nnow 36\n3/3 ready 3 old 0 ending 0\n0 0 0 0 0 done\n"
	checkSession(t, "with a last newline", text+"\n", want)
	checkSession(t, "without", text, want)
}

func TestWishLines(t *testing.T) {
	checkTalk(t, "wish",
		"calm 0", "now 0",
		"wish web 1 3 1 1", "code 0",
		"show web", "0/3 ready 0 old 0 ending 0",
		"wish web 2 10 0 10", "code 0",
		"show web", "0/10 ready 0 old 0 ending 0",
		"wish web 1000000 0 10 0", "code 0",
		"show web", "0/0 ready 0 old 0 ending 0",
		"wish web 0 3 1 1", "code 2",
		"wish web 1000001 3 1 1", "code 2",
		"wish web 9999999 3 1 1", "code 2",
		"wish web 1 11 1 1", "code 2",
		"wish web 1 3 11 1", "code 2",
		"wish web 1 3 1 11", "code 2",
		"wish web 1 3 0 0", "code 2",
		"wish WEB 1 3 1 1", "code 2",
		"wish "+name(impl.StewMaxName)+" 1 3 1 1", "code 0",
		"wish "+name(impl.StewMaxName+1)+" 1 3 1 1", "code 2",
		"show web", "0/0 ready 0 old 0 ending 0",
		"calm 0", "now 4")
	checkTalk(t, "Down and Over",
		"berth a", "code 0",
		"wish down 1 1 1 0", "code 0",
		"wish over 1 1 0 1", "code 0",
		"calm 3", "now 8",
		"wish down 2 1 1 0", "code 0",
		"wish over 2 1 0 1", "code 0",
		"act 2 0", "0 0",
		"show down", "0/1 ready 0 old 0 ending 1",
		"show over", "2/1 ready 1 old 1 ending 0")
	checkTalk(t, "services",
		"wish a 1 1 1 1", "code 0", "wish b 1 1 1 1", "code 0", "wish c 1 1 1 1", "code 0", "wish d 1 1 1 1", "code 0",
		"wish e 1 1 1 1", "code 0", "wish f 1 1 1 1", "code 0", "wish g 1 1 1 1", "code 0", "wish h 1 1 1 1", "code 0",
		"wish i 1 1 1 1", "code 2", "wish h 2 2 2 2", "code 0", "show i", "none", "calm 0", "now 9")
}

func TestFollowLines(t *testing.T) {
	checkTalk(t, "Load as it was",
		"follow web 3 1 2 10 1 4", "code 0",
		"show web", "0/1 ready 0 old 0 ending 0",
		"act 4 0", "-",
		"load web 35", "code 0",
		"act 4 0", "0",
		"show web", "0/4 ready 0 old 0 ending 0",
		"follow web 4 1 2 10 2 5", "code 0",
		"show web", "0/2 ready 0 old 0 ending 0",
		"act 4 0", "0",
		"show web", "0/4 ready 0 old 0 ending 0",
		"follow web 4 1 2 5 0 10", "code 0",
		"show web", "0/0 ready 0 old 0 ending 0",
		"act 4 0", "0",
		"show web", "0/7 ready 0 old 0 ending 0",
		"follow db 1 1 1 5 0 10", "code 0",
		"act 4 0", "-",
		"wish web 1 1 1 1", "code 0",
		"follow web 1 1 1 10 0 9", "code 0",
		"act 4 0", "-",
		"show web", "0/0 ready 0 old 0 ending 0")
	checkTalk(t, "bounds",
		"follow web 1 0 0 10 1 2", "code 2",
		"follow web 1 1 1 10 3 2", "code 2",
		"follow web 1 1 1 10 2 11", "code 2",
		"follow web 1 11 1 10 2 3", "code 2",
		"follow web 1 1 11 10 2 3", "code 2",
		"follow web 0 1 1 10 2 3", "code 2",
		"follow web 1 1 1 1000001 2 3", "code 2",
		"follow web 1 1 1 0 1 1", "code 2",
		"follow Web 1 1 1 10 2 3", "code 2",
		"calm 0", "now 0",
		"follow web 1 1 1 0 0 0", "code 0",
		"load web 1", "code 3",
		"follow web 1000000 10 10 1000000 0 10", "code 0",
		"load web 1", "code 0",
		"follow web 1 1 1 0 0 0", "code 2", // its Load is as it was, and there is no Per
		"act 4 0", "0",
		"show web", "0/1 ready 0 old 0 ending 0")
	checkTalk(t, "Image, Down and Over",
		"berth a", "code 0",
		"follow down 1 1 0 10 1 4", "code 0",
		"follow over 1 0 1 10 1 4", "code 0",
		"calm 3", "now 8",
		"follow down 2 1 0 10 1 4", "code 0",
		"follow over 2 0 1 10 1 4", "code 0",
		"act 2 0", "0 0",
		"show down", "0/1 ready 0 old 0 ending 1",
		"show over", "2/1 ready 1 old 1 ending 0")
}

func TestLeaveLines(t *testing.T) {
	checkTalk(t, "leave",
		"leave web", "code 3",
		"wish web 1 2 1 1", "code 0",
		"leave db", "code 3",
		"leave WEB", "code 3",
		"berth a", "code 0",
		"leave a", "code 3",
		"calm 5", "now 8",
		"leave web", "code 0",
		"show web", "2/2 ready 2 old 0 ending 0",
		"rank", "1 2 0 0 0",
		"leave web", "code 0", // it is Gone already, and is wished so again
		"calm 0", "now 10",
		"act 5 0", "0",
		"show web", "0/2 ready 0 old 0 ending 2",
		"leave web", "code 0",
		"act 5 0", "-",
		"tick", "code 0",
		"act 5 0", "0",
		"show web", "none",
		"leave web", "code 3",
		"calm 0", "now 14",
		"rank", "0 0 0 0 0 done")
	checkTalk(t, "wanted again",
		"wish web 1 2 1 1", "code 0",
		"leave web", "code 0",
		"rank", "1 0 0 0 0",
		"wish web 1 2 1 1", "code 0",
		"rank", "0 0 2 0 0",
		"leave web", "code 0",
		"follow web 1 1 1 10 3 6", "code 0",
		"rank", "0 0 3 0 0",
		"load web 45", "code 0",
		"leave web", "code 0",
		"act 4 0", "-",
		"follow web 1 1 1 10 3 6", "code 0", // Load is 45 all along
		"act 4 0", "0",
		"show web", "0/5 ready 0 old 0 ending 0")
}

func TestBerthLines(t *testing.T) {
	checkTalk(t, "berth and drain",
		"berth a", "code 0",
		"wish web 1 1 1 1", "code 0",
		"drain a", "code 0",
		"calm 3", "now 7",
		"rank", "0 0 0 0 1",
		"berth a", "code 0",
		"tick", "code 0",
		"tick", "code 0",
		"rank", "0 0 0 0 0 done",
		"drain a", "code 0",
		"rank", "0 0 0 1 0",
		"drain a", "code 0",
		"berth a", "code 0",
		"rank", "0 0 0 0 0 done",
		"calm 0", "now 13")
	checkTalk(t, "how many",
		"berth A", "code 2", "drain a_", "code 2", "berth "+name(20), "code 0", "drain "+name(21), "code 2",
		"berth 1", "code 0", "drain -", "code 0", "berth a", "code 0", "drain b", "code 0", "berth berth", "code 0",
		"berth d", "code 2", "drain d", "code 2", "drain 1", "code 0", "berth b", "code 0", "sink -", "code 0",
		"drain d", "code 0", "berth e", "code 2", "calm 0", "now 10")
	checkTalk(t, "sink",
		"sink a", "code 3",
		"drain a", "code 0",
		"sink b", "code 3",
		"sink a", "code 0",
		"sink a", "code 3",
		"berth a", "code 0",
		"wish web 1 2 1 1", "code 0",
		"calm 3", "now 8",
		"sink web", "code 3",
		"show web", "2/2 ready 2 old 0 ending 0",
		"sink a", "code 0",
		"show web", "0/2 ready 0 old 0 ending 0",
		"calm 0", "now 9")
}

func TestFailLines(t *testing.T) {
	checkTalk(t, "fail",
		"berth a", "code 0",
		"wish web 1 2 1 1", "code 0",
		"fail web 1", "code 3",
		"act 1 0", "0",
		"fail web 1", "code 3", // it waits
		"tick", "code 0",
		"fail web 1", "code 0",
		"fail web 1", "code 3",
		"fail web 0", "code 3",
		"fail web 3", "code 3",
		"fail web 9999999", "code 3",
		"fail db 1", "code 3",
		"fail WEB 1", "code 3",
		"tick", "code 0",
		"fail web 2", "code 0",
		"rank", "0 0 0 0 2",
		"act 3 0", "0",
		"show web", "0/2 ready 0 old 0 ending 2",
		"calm 0", "now 8")
}

func TestLoadLines(t *testing.T) {
	checkTalk(t, "load",
		"load web 1", "code 3",
		"wish web 1 1 1 1", "code 0",
		"load web 1", "code 3",
		"follow web 1 1 1 100000 0 10", "code 0",
		"load web 1000000", "code 0",
		"load web 1000001", "code 2",
		"load web 9999999", "code 2",
		"load WEB 1", "code 3",
		"act 4 0", "0",
		"show web", "0/10 ready 0 old 0 ending 0",
		"load web 0", "code 0",
		"act 4 0", "0",
		"show web", "0/10 ready 0 old 0 ending 0",
		"calm 0", "now 6")
}

func TestTickLines(t *testing.T) {
	checkTalk(t, "tick",
		"tick", "code 0",
		"tick", "code 0",
		"calm 0", "now 2",
		"wish web 1 2 1 1", "code 0",
		"act 1 0", "0",
		"tick", "code 0",
		"rank", "0 0 0 0 2",
		"berth a", "code 0",
		"tick", "code 0",
		"show web", "2/2 ready 0 old 0 ending 0",
		"tick", "code 0",
		"show web", "2/2 ready 2 old 0 ending 0",
		"rank", "0 0 0 0 0 done")
}

func TestActLines(t *testing.T) {
	checkTalk(t, "nothing to ask for",
		"act 1 0", "-", "act 2 0", "-", "act 3 0", "-", "act 4 0", "-", "act 5 0", "-", "act 6 0", "-",
		"act 1 1", "-", "act 6 9999999", "-", "act 0 0", "bad", "act 7 0", "bad", "act 9999999 0", "bad", "calm 0", "now 0")
	checkTalk(t, "ages",
		"wish a 1 1 1 1", "code 0",
		"wish b 1 1 1 1", "code 0",
		"wish c 1 1 1 1", "code 0",
		"act 1 0", "0 0 0",
		"act 1 0", "-",
		"act 1 1", "4",
		"act 1 2", "4 4",
		"act 1 3", "4 4 4",
		"act 1 4", "4 4",
		"act 1 5", "4",
		"act 1 6", "-",
		"act 1 7", "-",
		"act 1 9999999", "-",
		"calm 0", "now 6")
	checkTalk(t, "done and late",
		"wish a 1 1 1 1", "code 0",
		"wish b 1 1 1 1", "code 0",
		"wish a 1 1 1 1", "code 0",
		"act 1 1", "4 0",
		"show a", "0/1 ready 0 old 0 ending 0",
		"show b", "1/1 ready 0 old 0 ending 0",
		"calm 0", "now 4")
	checkTalk(t, "what was dropped",
		"wish a 1 1 1 1", "code 0",
		"leave a", "code 0",
		"act 5 0", "0",
		"act 5 1", "3",
		"act 1 2", "3")
	for _, age := range []string{"7", "8", "9", "100"} {
		checkTalk(t, "the first that is remembered, age "+age,
			"tick", "code 0", "tick", "code 0", "wish web 1 3 1 1", "code 0", "tick", "code 0", "tick", "code 0", "tick", "code 0",
			"tick", "code 0", "tick", "code 0", "tick", "code 0", "tick", "code 0", "tick", "code 0",
			"act 1 "+age, "0", "act 1 1", "4", "show web", "3/3 ready 0 old 0 ending 0")
	}
}

func TestActLinesOfEachSteward(t *testing.T) {
	checkTalk(t, "counter", "wish web 1 3 1 1", "code 0", "act 1 0", "0", "show web", "3/3 ready 0 old 0 ending 0",
		"wish web 1 1 1 1", "code 0", "act 1 0", "0", "show web", "2/1 ready 0 old 0 ending 1")
	ready := []string{"berth a", "code 0", "wish web 1 1 1 1", "code 0", "calm 3", "now 6", "show web", "1/1 ready 1 old 0 ending 0"}
	for kind, talk := range map[string][]string{
		"waver": {"wish web 2 1 1 1", "code 0", "act 2 0", "0", "show web", "2/1 ready 1 old 1 ending 0", "act 2 0", "0",
			"show web", "1/1 ready 0 old 0 ending 1", "act 2 0", "-"},
		"mender": {"fail web 1", "code 0", "act 3 0", "0", "show web", "0/1 ready 0 old 0 ending 1", "act 3 0", "-"},
		"scaler": {"follow web 1 1 1 10 1 4", "code 0", "load web 40", "code 0", "act 4 0", "0", "show web", "1/4 ready 1 old 0 ending 0",
			"act 4 0", "-", "load web 0", "code 0", "act 4 0", "0", "act 4 0", "0", "act 4 0", "0", "act 4 0", "0", "show web", "1/3 ready 1 old 0 ending 0"},
		"sweeper": {"leave web", "code 0", "act 5 0", "0", "show web", "0/1 ready 0 old 0 ending 1", "tick", "code 0", "act 5 0", "0", "show web", "none"},
		"drainer": {"drain a", "code 0", "act 6 0", "0", "show web", "2/1 ready 1 old 0 ending 0", "act 6 0", "0",
			"show web", "1/1 ready 0 old 0 ending 1", "act 6 0", "-"},
	} {
		checkTalk(t, kind, append(ready[:len(ready):len(ready)], talk...)...)
	}
}

func TestCalmLines(t *testing.T) {
	checkTalk(t, "rounds",
		"calm 0", "now 0",
		"calm 1", "now 1",
		"calm 200", "now 201",
		"calm 201", "no",
		"calm 1000", "no",
		"calm 9999999", "no",
		"calm 10000000", "bad",
		"calm 0", "now 201",
		"calm 199", "now 400")
	checkTalk(t, "no harm by no",
		"wish web 1 3 1 1", "code 0",
		"calm 201", "no",
		"show web", "0/3 ready 0 old 0 ending 0",
		"calm 1", "now 3",
		"show web", "3/3 ready 0 old 0 ending 0",
		"act 1 1", "4")
	// Counter ahead of mender: what the mender ends is created in the next round alone.
	checkTalk(t, "order",
		"berth a", "code 0",
		"wish web 1 1 1 1", "code 0",
		"calm 3", "now 6",
		"fail web 1", "code 0",
		"calm 1", "now 9",
		"show web", "0/1 ready 0 old 0 ending 1",
		"calm 1", "now 11",
		"show web", "1/1 ready 0 old 0 ending 0")
}

func TestShowLines(t *testing.T) {
	checkTalk(t, "show",
		"show web", "none",
		"berth a", "code 0",
		"show a", "none",
		"wish web 1 3 1 1", "code 0",
		"wish w 1 1 1 1", "code 0",
		"show web", "0/3 ready 0 old 0 ending 0",
		"show w", "0/1 ready 0 old 0 ending 0",
		"show we", "none",
		"show Web", "none",
		"act 1 0", "0 0",
		"show web", "3/3 ready 0 old 0 ending 0",
		"tick", "code 0",
		"tick", "code 0",
		"show web", "3/3 ready 3 old 0 ending 0",
		"fail web 2", "code 0",
		"show web", "3/3 ready 2 old 0 ending 0",
		"act 3 0", "0",
		"show web", "2/3 ready 2 old 0 ending 1",
		"wish web 2 10 1 1", "code 0",
		"act 1 0", "0",
		"show web", "10/10 ready 2 old 2 ending 1",
		"show w", "1/1 ready 1 old 0 ending 0")
}

func TestRankLines(t *testing.T) {
	checkTalk(t, "rank",
		"rank", "0 0 0 0 0 done",
		"berth a", "code 0",
		"rank", "0 0 0 0 0 done",
		"wish gone 1 3 1 1", "code 0",
		"wish web 1 4 1 1", "code 0",
		"rank", "0 0 7 0 0",
		"act 1 0", "0 0",
		"rank", "0 0 0 0 7",
		"tick", "code 0",
		"tick", "code 0",
		"rank", "0 0 0 0 0 done",
		"leave gone", "code 0",
		"wish web 2 2 1 1", "code 0",
		"rank", "1 3 2 4 0",
		"fail web 1", "code 0",
		"rank", "1 3 2 4 1",
		"act 3 0", "0",
		"rank", "1 4 1 3 0")
	checkTalk(t, "nothing left, but not done",
		"follow web 1 1 1 10 0 4", "code 0",
		"rank", "0 0 0 0 0 done",
		"load web 35", "code 0",
		"rank", "0 0 0 0 0",
		"act 4 0", "0",
		"rank", "0 0 4 0 0",
		"load web 0", "code 0",
		"act 4 0", "0",
		"act 1 0", "0",
		"berth a", "code 0",
		"tick", "code 0",
		"tick", "code 0",
		"rank", "0 0 0 0 0",
		"load web 40", "code 0",
		"rank", "0 0 0 0 0", // its Cool is 1 yet
		"act 4 0", "0",
		"rank", "0 0 0 0 0 done")
}

func TestNamesThatAreNone(t *testing.T) {
	for _, odd := range []string{"A", "_", ".", "\x00", "\xff", "\xc3\x28", "ü", "a\r", "\r", "\t", "a\tb", "\v", "\u00a0", "\u2028", "a\x00", "web\r",
		name(21), "0x", "tick", "1", "-1"} {
		title := fmt.Sprintf("%q", odd)
		code := "code 2"
		if odd == "0x" || odd == "tick" || odd == "1" || odd == "-1" {
			code = "code 0"
		}
		checkTalk(t, title, "show "+odd, "none", "leave "+odd, "code 3", "sink "+odd, "code 3", "fail "+odd+" 1", "code 3", "load "+odd+" 1", "code 3",
			"wish "+odd+" 1 1 1 1", code, "follow "+odd+" 1 1 1 1 1 1", code, "berth "+odd, code, "drain "+odd, code)
	}
}

func TestSessionsAgainstTheCalls(t *testing.T) {
	r := rand.New(rand.NewSource(11))
	for i := range 300 {
		size := r.Intn(60)
		if i%15 == 0 {
			size = impl.StewMaxLines
		}
		lines, answers := randomSession(r, size)
		got := strings.Split(impl.StewSession(asText(lines)), "\n")
		if len(got) != len(lines)+1 {
			t.Fatalf("%d lines have %d answers", len(lines), len(got)-1)
		}
		for j, line := range lines {
			if got[j] != answers[j] {
				t.Fatalf("%q is answered %q, want %q, behind\n%s", line, got[j], answers[j], asText(lines[:j]))
			}
		}
	}
}
