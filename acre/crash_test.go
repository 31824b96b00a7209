package acre

import (
	"fmt"
	"math/rand/v2"
	"slices"
	"strings"
	"testing"

	"acre/disk"
)

// cuts tells what crashes may leave: nothing, all, each beginning of a sector, and these mixed.
func cuts() [][]int {
	out := [][]int{nil, {-1}, {1000}, {0, 64}, {64, 0}, {1, 0, 64}, {64, 64, 0}, {0, 0, 64}, {33, 2, 64}, {64, 63, 62, 5, 0}}
	for n := range disk.Size + 1 {
		out = append(out, []int{n})
	}
	return out
}

// someCuts are a few of them, and some by chance.
func someCuts(r *rand.Rand) [][]int {
	out := [][]int{nil, {64}, {1}, {63}, {0, 64}, {64, 0}}
	for range 3 {
		cut := make([]int, 1+r.IntN(12))
		for i := range cut {
			cut[i] = r.IntN(disk.Size + 1)
		}
		out = append(out, cut)
	}
	return out
}

// lost is a command that was not answered, the book without it and with it, and its answer there.
type lost struct {
	line, answer  string
	without, with *model
	before, after picture // of these models
}

func newLost(m *model, line string, behind []string) lost {
	tokens := tokensOf(append(slices.Clone(behind[max(0, len(behind)-12):]), line))
	l := lost{line: line, without: m.clone(), with: m.clone()}
	l.answer = l.with.do(line)
	l.before, l.after = l.without.picture(tokens), l.with.picture(tokens)
	return l
}

// found tells whether the command was done in a book that was opened behind the crash.
func (l lost) found(t testing.TB, where string, x *Book) bool {
	t.Helper()
	first := l.before.difference(x)
	if first == "" {
		return false
	}
	if second := l.after.difference(x); second != "" {
		t.Fatalf("P12: %s: %q was not answered; neither is the book as it was without it: %s\nnor as with it: %s", where, l.line, first, second)
	}
	return true
}

// check opens a book on what is left, crashes once more, and sends the command again.
func (l lost) check(t testing.TB, where string, c *disk.Disk) *Book {
	t.Helper()
	x := reopen(t, c)
	is := l.before
	if l.found(t, where, x) {
		is = l.after
	}
	is.check(t, "P12: "+where+": behind a second crash", reopen(t, c.Crash([]int{0, 64})))
	for range 2 {
		if a := x.Do(l.line); a != l.answer {
			t.Fatalf("P12, P13: %s: %q, sent again: %q, want %q", where, l.line, a, l.answer)
		}
	}
	l.after.check(t, "P13: "+where+": sent again", x)
	return x
}

// eachStop does a line on copies of a safe disk that stop behind 0, 1, 2 and more steps, until it is answered; it tells the disks on which it was not.
func eachStop(t testing.TB, base *disk.Disk, line, want string) []*disk.Disk {
	t.Helper()
	var out []*disk.Disk
	for n := range 1000 {
		d := base.Crash(nil)
		x := reopen(t, d)
		d.Stop(n)
		a := x.Do(line)
		if a == "" && d.Stopped() {
			out = append(out, d)
			continue
		}
		if a != want {
			t.Fatalf("P12: %q on a disk that stops behind %d steps: %q, want %q", line, n, a, want)
		}
		return out
	}
	t.Fatalf("%q is not answered within 999 steps", line)
	return nil
}

// playWithStops does lines, each of them from one number on disks that stop at each of its steps, and looks at all that crashes leave there.
func playWithStops(t *testing.T, lines []string, from int, cuts [][]int) {
	base, m := disk.New(), newModel()
	x := reopen(t, base)
	for i, line := range lines {
		if i < from {
			m.check(t, x, line)
			continue
		}
		l := newLost(m, line, lines[:i])
		for n, d := range eachStop(t, base, line, l.answer) {
			for _, cut := range cuts {
				l.check(t, fmt.Sprintf("line %d, stop behind %d steps, %v left", i, n, cut), d.Crash(cut))
			}
		}
		m.check(t, x, line)
	}
}

// The disk stops at each step of each line, and each beginning of each write is left.
func TestEachStopAndCut(t *testing.T) {
	for seed := range uint64(8) {
		t.Run(fmt.Sprint(seed), func(t *testing.T) {
			t.Parallel()
			playWithStops(t, history(seed, 25), 0, cuts())
		})
	}
}

// The same in books that are full of things.
func TestEachStopOfLongWalks(t *testing.T) {
	for seed := range uint64(8) {
		t.Run(fmt.Sprint(seed), func(t *testing.T) {
			t.Parallel()
			playWithStops(t, history(100+seed, 160), 130, someCuts(rand.New(rand.NewPCG(seed, 3))))
		})
	}
}

// One book on a disk that stops behind so and so many steps: all its lines are answered as if it never stopped, then none is; the rest of them is done behind the crash.
func TestStopsOfOneBook(t *testing.T) {
	lines := history(21, 60)
	for n := 0; n < 700; n += 1 + n/20 {
		for k, cut := range [][]int{nil, {64}, {1}, {40}, {0, 64}, {64, 0}, {64, 9, 0, 33}} {
			where := fmt.Sprintf("stop behind %d steps, %v left", n, cut)
			d, m := disk.New(), newModel()
			x := reopen(t, d)
			d.Stop(n)
			for i, line := range lines {
				a := x.Do(line)
				if a != "" {
					if want := m.do(line); a != want {
						t.Fatalf("P12: %s: Do(%q) = %q, want %q", where, line, a, want)
					}
					continue
				}
				l := newLost(m, line, lines[:i])
				x, m = l.check(t, where, d.Crash(cut)), l.with
				for _, later := range lines[i+1 : min(len(lines), i+6+k)] {
					m.check(t, x, later)
				}
				break
			}
		}
	}
}

// Two crashes one behind the other: the second while the lost command is sent again.
func TestStopAgain(t *testing.T) {
	lines := history(31, 40)
	base, m := disk.New(), newModel()
	x := reopen(t, base)
	few := [][]int{nil, {64}, {7}, {0, 64}}
	for i, line := range lines {
		l := newLost(m, line, lines[:i])
		for n, d := range eachStop(t, base, line, l.answer) {
			for _, cut := range few {
				first := d.Crash(cut)
				for k, e := range eachStop(t, first, line, l.answer) {
					l.check(t, fmt.Sprintf("line %d, stops behind %d and %d steps", i, n, k), e.Crash(few[(k+n)%len(few)]))
				}
			}
		}
		m.check(t, x, line)
	}
}

// Walks with many crashes: the command that was lost is sent again at once, later or never.
func TestWalksWithCrashes(t *testing.T) {
	for seed := range uint64(24) {
		t.Run(fmt.Sprint(seed), func(t *testing.T) {
			t.Parallel()
			r := rand.New(rand.NewPCG(seed, 4))
			w := &walker{model: newModel(), pick: r.IntN}
			d := disk.New()
			x := reopen(t, d)
			for i := range 800 {
				if !d.Stopped() && r.IntN(6) == 0 {
					d.Stop(r.IntN(60))
				}
				line := w.line(i/200%2 == 0)
				w.lines = append(w.lines, line)
				a := x.Do(line)
				if a != "" {
					if want := w.do(line); a != want {
						t.Fatalf("Do(%q) = %q, want %q", line, a, want)
					}
					continue
				}
				l := newLost(w.model, line, w.lines)
				cut := someCuts(r)
				d = d.Crash(cut[r.IntN(len(cut))])
				x = reopen(t, d)
				if l.found(t, "a walk", x) {
					w.model = l.with
				}
				if r.IntN(2) == 0 {
					w.check(t, x, line)
				}
			}
		})
	}
}

// Behind a command that was not answered nothing is, whatever it is.
func TestDownForGood(t *testing.T) {
	d := disk.New()
	x := reopen(t, d)
	play(t, x, "POOL a ann 10.0.0.0/24 -> OK", "BLOCK b ann 10.0.0.0/30 -> OK")
	d.Stop(1)
	play(t, x, "LEASE c cy 10.0.0.0/30 -> ")
	for range 3 {
		play(t, x, "POOLS -> ", "NETS 10.0.0.0/24 -> ", "USED 10.0.0.0/30 -> ", "POOL a ann 10.0.0.0/24 -> ", "POOL a bob 10.0.0.0/24 -> ", "LEASE c cy 10.0.0.0/30 -> ", "POOL d ann 10.0.0.0/31 -> ", "POOL e ann 10.0.1.0/24 -> ", "nonsense -> ", " -> ", "NETS 9.0.0.0/8 -> ")
		d.Stop(-1)
	}
}

// Once the disk is stopped, what lays nothing down may be answered, rightly, or not; behind the first that was not, nothing is.
func TestStoppedButNotAsked(t *testing.T) {
	script := []string{"POOLS -> OK 10.0.0.0/24=ann", "POOL a ann 10.0.0.0/24 -> OK", "POOL a bob 10.0.0.0/24 -> ERR TOKEN", "POOL c ann 10.0.0.0/25 -> ERR OVERLAP", "nonsense -> ERR LINE", "NETS 10.0.0.0/24 -> OK", "USED 10.0.0.0/30 -> ERR NET"}
	for i := range script {
		d := disk.New()
		x := reopen(t, d)
		play(t, x, "POOL a ann 10.0.0.0/24 -> OK")
		d.Stop(0)
		silent := false
		for _, s := range append(slices.Clone(script[i:]), script[:i]...) {
			line, want, _ := strings.Cut(s, " -> ")
			a := x.Do(line)
			if a != "" && (silent || a != want) {
				t.Fatalf("P12: on a stopped disk Do(%q) = %q, want %q; one was not answered ahead of it: %v", line, a, want, silent)
			}
			silent = silent || a == ""
		}
		play(t, x, "POOL b bob 10.0.1.0/24 -> ", "POOLS -> ")
		play(t, reopen(t, d.Crash([]int{64})), "POOLS -> OK 10.0.0.0/24=ann", "POOL a ann 10.0.0.0/24 -> OK", "POOL b bob 10.0.1.0/24 -> OK")
	}
}

// names tells names of the same letters, so that any sum of their bytes is the same, in all their orders.
func names(letters string) []string {
	if len(letters) < 2 {
		return []string{letters}
	}
	var out []string
	for i := range letters {
		for _, rest := range names(letters[:i] + letters[i+1:]) {
			out = append(out, letters[i:i+1]+rest)
		}
	}
	return out
}

// Lines that are chosen so that a sum over their bytes is right though they were written in part: the same letters in other orders, by turns.
func TestChosenLines(t *testing.T) {
	var lines []string
	all := names("ab12")
	for i := range 5 {
		a, b := all[i], all[len(all)-1-i]
		lines = append(lines, "POOL "+a+" "+b+" 10.0.1.0/24", "DROP "+b+" "+b+" 10.0.1.0/24", "POOL "+b+a+" "+a+" 1.0.10.0/24", "DROP "+a+b+" "+a+" 1.0.10.0/24")
	}
	playWithStops(t, lines, 0, cuts())
}

// Lines of which so many kinds are tried that a check of few bits is right by chance for some of them.
func TestManyLines(t *testing.T) {
	few := [][]int{{64, 0}, {0, 64}, {32}, {64, 20}}
	for group := range 4 {
		t.Run(fmt.Sprint(group), func(t *testing.T) {
			t.Parallel()
			r := rand.New(rand.NewPCG(uint64(group), 5))
			var lines []string
			for i := range 60 {
				owner := fmt.Sprintf("%08x", r.Uint32())
				lines = append(lines, fmt.Sprintf("POOL p%d %s 10.0.0.0/24", i, owner), fmt.Sprintf("DROP d%d %s 10.0.0.0/24", i, owner))
			}
			playWithStops(t, lines, 0, few)
		})
	}
}

// A command with the longest of lines, in a long table, is lost and sent again.
func TestLongestLinesAreLost(t *testing.T) {
	var lines []string
	for i := range 12 {
		lines = append(lines, fmt.Sprintf("POOL pooltk%02d ownerxyz 255.255.%d.128/30", i, 100+i%6))
		if i >= 5 {
			lines = append(lines, fmt.Sprintf("NET nettok%02d ownerxyz 255.255.%d.128/30 31", i, 100+i%6), fmt.Sprintf("TAKE taketk%02d ownerxyz 255.255.%d.128", i, 100+i%6),
				fmt.Sprintf("GIVE givetk%02d ownerxyz 255.255.%d.128", i, 100+i%6), fmt.Sprintf("FREE freetk%02d ownerxyz 255.255.%d.128/31", i, 100+i%6), fmt.Sprintf("DROP droptk%02d ownerxyz 255.255.%d.128/30", i, 100+i%6))
		}
	}
	playWithStops(t, lines, 0, [][]int{nil, {64}, {0, 64}, {64, 0}, {31}})
}

// FuzzCrash does any lines on a disk that stops, and looks at what any crash leaves.
func FuzzCrash(f *testing.F) {
	f.Add("POOL a ann 10.0.0.0/23\nNET b ann 10.0.0.0/23 25\nLEASE c cy 10.0.0.0/25\nFREE d ann 10.0.0.0/25\nGIVE e cy 10.0.0.1", 9, []byte{64, 0, 13})
	f.Add("POOL a ann 255.255.255.252/30\nBLOCK b ann 255.255.255.254/31\nTAKE c cy 255.255.255.255", 5, []byte{})
	f.Fuzz(func(t *testing.T, all string, n int, bytes []byte) {
		cut := make([]int, len(bytes))
		for i, b := range bytes {
			cut[i] = int(b)
		}
		d, m, lines := disk.New(), newModel(), strings.Split(all, "\n")
		x := reopen(t, d)
		d.Stop(n)
		for i, line := range lines {
			a := x.Do(line)
			if a == "" {
				newLost(m, line, lines[:i]).check(t, "a crash", d.Crash(cut))
				return
			}
			if want := m.do(line); a != want {
				t.Fatalf("Do(%q) = %q, want %q", line, a, want)
			}
		}
		checkSame(t, "P12", reopen(t, d.Crash(cut)), m, nil)
	})
}
