package acre

import (
	"fmt"
	"math/rand/v2"
	"slices"
	"strings"
	"testing"

	"acre/api"
	"acre/disk"
)

// probe is a line that tells whether a token is in the table, and changes nothing: nobody ever leases the address.
func probe(token string) string { return "GIVE " + token + " nobody 203.0.113.9" }

// picture is all that is seen of a book: what it tells, which tokens it knows, and how it answers their lines again.
type picture struct {
	whole  string
	probed [][2]string // tokens, each with the answer to its probe
	done   []doneCommand
}

func (m *model) picture(tokens []string) picture {
	out := picture{whole: wholeOf(m.do), done: slices.Clone(m.done)}
	for _, d := range m.done {
		out.probed = append(out.probed, [2]string{d.token, "ERR TOKEN"})
	}
	for _, token := range tokens {
		out.probed = append(out.probed, [2]string{token, m.do(probe(token))})
	}
	return out
}

// difference tells in what a book is otherwise than a picture; it does not change the book.
func (p picture) difference(x *Book) string {
	if a := whole(x); a != p.whole {
		return fmt.Sprintf("it tells\n%s\nwant\n%s", a, p.whole)
	}
	// Asked first: a line whose token the book does not know would be done.
	for _, q := range p.probed {
		if a := x.Do(probe(q[0])); a != q[1] {
			return fmt.Sprintf("of the token %s it answers %q, want %q", q[0], a, q[1])
		}
	}
	for _, d := range p.done {
		if a := x.Do(d.line); a != d.answer {
			return fmt.Sprintf("%q again is answered %q, want %q", d.line, a, d.answer)
		}
	}
	return ""
}

func (p picture) check(t testing.TB, where string, x *Book) {
	t.Helper()
	if s := p.difference(x); s != "" {
		t.Fatalf("%s: the book is not as it was: %s", where, s)
	}
}

func checkSame(t testing.TB, where string, x *Book, m *model, tokens []string) {
	t.Helper()
	m.picture(tokens).check(t, where, x)
}

// tokensOf tells the tokens of commands.
func tokensOf(lines []string) []string {
	var out []string
	for _, l := range lines {
		if w := strings.Split(l, " "); len(w) > 2 {
			out = append(out, w[1])
		}
	}
	return out
}

// history tells lines of a walk, as they come, some of them refused.
func history(seed uint64, n int) []string {
	w := &walker{model: newModel(), pick: rand.New(rand.NewPCG(seed, 2)).IntN}
	for i := range n {
		line := w.line(i/150%2 == 0)
		w.lines = append(w.lines, line)
		w.do(line)
	}
	return w.lines
}

func checkDown(t *testing.T, d *disk.Disk) {
	t.Helper()
	if x, e := Open(d); x != nil || e != api.ErrDown {
		t.Errorf("P11: Open of a disk that is stopped: %v, %d", x, e)
	}
}

// A book goes on where the one ahead of it ended, on the same disk and on what a crash leaves.
func TestReopened(t *testing.T) {
	for seed := range uint64(8) {
		d, m, lines := disk.New(), newModel(), history(seed, 400)
		x := reopen(t, d)
		for i, line := range lines {
			m.check(t, x, line)
			tokens := tokensOf(lines[max(0, i-12) : i+1])
			checkSame(t, "P12, behind a crash", reopen(t, d.Crash([]int{i % 66})), m, tokens)
			if i%3 != 0 {
				continue
			}
			x = reopen(t, d)
			checkSame(t, "P11, opened again", x, m, tokens)
		}
	}
}

// The table outlives in its order: the token that goes is the oldest one, whenever the book was opened.
func TestReopenedTable(t *testing.T) {
	d := disk.New()
	x := reopen(t, d)
	play(t, x, "POOL p ann 10.0.0.0/16 -> OK")
	for i := range 24 {
		play(t, x, fmt.Sprintf("NET t%d ann 10.0.0.0/16 24 -> OK 10.0.%d.0/24", i, i))
		x = reopen(t, d)
		for j := range i + 1 {
			if j > i-8 {
				play(t, x, fmt.Sprintf("NET t%d ann 10.0.0.0/16 24 -> OK 10.0.%d.0/24", j, j), probe(fmt.Sprintf("t%d", j))+" -> ERR TOKEN")
			} else {
				play(t, x, probe(fmt.Sprintf("t%d", j))+" -> ERR ADDR")
			}
		}
	}
}

// An empty book is empty behind a crash too, and opening changes nothing.
func TestOpeningChangesNothing(t *testing.T) {
	d := disk.New()
	for range 5 {
		reopen(t, d)
		d = d.Crash([]int{64})
	}
	play(t, reopen(t, d), "POOLS -> OK", "POOL a ann 10.0.0.0/24 -> OK")
	for range 5 {
		reopen(t, d)
		d = d.Crash([]int{64})
	}
	play(t, reopen(t, d), "POOLS -> OK 10.0.0.0/24=ann", "POOL a ann 10.0.0.0/24 -> OK", "POOL a bob 10.0.0.0/24 -> ERR TOKEN", "POOL b bob 10.0.0.0/24 -> ERR OVERLAP")
}

// What was all taken back is no more behind a crash.
func TestReopenedEmptyAgain(t *testing.T) {
	d := disk.New()
	play(t, reopen(t, d), "POOL a ann 10.0.0.0/24 -> OK", "NET b ann 10.0.0.0/24 31 -> OK 10.0.0.0/31", "LEASE c ann 10.0.0.0/31 -> OK 10.0.0.0", "GIVE d ann 10.0.0.0 -> OK", "FREE e ann 10.0.0.0/31 -> OK", "DROP f ann 10.0.0.0/24 -> OK")
	play(t, reopen(t, d.Crash(nil)), "POOLS -> OK", "NETS 10.0.0.0/24 -> ERR POOL", "USED 10.0.0.0/31 -> ERR NET", "DROP f ann 10.0.0.0/24 -> OK", "GIVE d ann 10.0.0.0 -> OK", "GIVE g ann 10.0.0.0 -> ERR ADDR", "POOL g bob 10.0.0.0/25 -> OK")
}

// A book that is as full as it can be, with the longest names, outlives whole; its bounds hold behind that.
func TestReopenedFull(t *testing.T) {
	d, m := disk.New(), newModel()
	x := reopen(t, d)
	name := func(kind string, i int) string { return fmt.Sprintf("%s%06d", kind, i) }
	for i := range 6 {
		m.check(t, x, fmt.Sprintf("POOL %s %s 24%d.128.224.192/26", name("pt", i), name("po", i), i))
	}
	for i := range 24 {
		m.check(t, x, fmt.Sprintf("BLOCK %s %s 24%d.128.224.%d/28", name("nt", i), name("no", i), i/4, 192+16*(i%4)))
	}
	for i := range 40 {
		m.check(t, x, fmt.Sprintf("TAKE %s %s 24%d.128.224.%d", name("lt", i), name("lo", i), i/10, 193+i%10))
	}
	var tokens []string
	for i := range 40 {
		tokens = append(tokens, name("lt", i))
	}
	for range 3 {
		checkSame(t, "P11", reopen(t, d), m, tokens)
		d = d.Crash([]int{64})
		x = reopen(t, d)
		checkSame(t, "P12", x, m, tokens)
		play(t, x, "POOL q q 1.0.0.0/8 -> ERR LIMIT", "BLOCK q q 240.128.224.200/29 -> ERR OVERLAP", "NET q q 240.128.224.192/26 32 -> ERR FULL", "TAKE q q 245.128.224.250 -> ERR LIMIT", "LEASE q q 245.128.224.240/28 -> ERR LIMIT")
	}
	m.check(t, x, "GIVE "+name("gt", 0)+" "+name("lo", 0)+" 240.128.224.193")
	m.check(t, x, "LEASE "+name("gt", 1)+" "+name("lo", 0)+" 245.128.224.240/28")
	checkSame(t, "P12", reopen(t, d.Crash(nil)), m, tokens)
}

// However long the texts are that a book is made of, it is opened again whole.
func TestReopenedOfAnyLength(t *testing.T) {
	for a := range 8 {
		for b := range 8 {
			d, m := disk.New(), newModel()
			x := reopen(t, d)
			token, owner := strings.Repeat("t", a), strings.Repeat("z", b+1)
			lines := []string{"POOL p" + token + " " + owner + " 10.0.0.0/16"}
			for i := range 9 {
				lines = append(lines, fmt.Sprintf("NET %d%s %s 10.0.0.0/16 %d", i, token, owner, 24+i%9))
			}
			for i, line := range lines {
				m.check(t, x, line)
				checkSame(t, "P12", reopen(t, d.Crash(nil)), m, tokensOf(lines[:i+1]))
			}
		}
	}
}

// So many commands that no disk has room for all of them.
func TestLongRun(t *testing.T) {
	d, m := disk.New(), newModel()
	x := reopen(t, d)
	m.check(t, x, "POOL a ann 10.0.0.0/24")
	m.check(t, x, "BLOCK b ann 10.0.0.0/30")
	for i := range 3000 {
		m.check(t, x, fmt.Sprintf("TAKE x%d cy%d 10.0.0.%d", i, i%100, 1+i%2))
		m.check(t, x, fmt.Sprintf("GIVE y%d cy%d 10.0.0.%d", i, i%100, 1+i%2))
		if i%100 == 0 {
			checkSame(t, "P12, behind many commands", reopen(t, d.Crash(nil)), m, []string{fmt.Sprintf("x%d", i), fmt.Sprintf("x%d", i-3), fmt.Sprintf("x%d", i-4)})
		}
	}
}

func TestStoppedDiskIsNotOpened(t *testing.T) {
	d := disk.New()
	d.Stop(0)
	checkDown(t, d)
	checkDown(t, d)

	d = disk.New()
	x := reopen(t, d)
	play(t, x, "POOL a ann 10.0.0.0/24 -> OK")
	d.Stop(1)
	play(t, x, "POOL b ann 10.0.1.0/24 -> ")
	checkDown(t, d)
	d.Stop(-1)
	checkDown(t, d)
	// What is left of it is no stopped disk any more.
	play(t, reopen(t, d.Crash(nil)), "POOLS -> OK 10.0.0.0/24=ann")
}

// A disk with no step left is stopped, though it has not refused one yet.
func TestDiskWithoutStepsIsNotOpened(t *testing.T) {
	for n := 1; n < 100; n++ {
		d := disk.New()
		x := reopen(t, d)
		d.Stop(n)
		a := x.Do("POOL a ann 10.0.0.0/24")
		if a == "" {
			continue
		}
		if a != "OK" || !d.Stopped() {
			t.Fatalf("with %d steps: %q, stopped: %v", n, a, d.Stopped())
		}
		checkDown(t, d)
		play(t, reopen(t, d.Crash(nil)), "POOLS -> OK 10.0.0.0/24=ann")
		return
	}
	t.Error("no command is answered within 99 steps")
}

// A disk that stops while a book is opened on it: either ErrDown, or the book is there; behind a crash it is there in any case.
func TestStopWhileOpening(t *testing.T) {
	lines := history(5, 120)
	base, m := disk.New(), newModel()
	x := reopen(t, base)
	for _, line := range lines {
		m.check(t, x, line)
	}
	tokens := tokensOf(lines[len(lines)-12:])
	for n := 1; n < 80; n++ {
		d := base.Crash(nil)
		d.Stop(n)
		y, e := Open(d)
		switch {
		case e == api.OK && d.Stopped():
			// It may be silent already.
		case e == api.OK:
			checkSame(t, "P11, opened with few steps left", y, m, tokens)
		case y != nil || e != api.ErrDown || !d.Stopped():
			t.Fatalf("P11: Open with %d steps left: %v, %d, stopped: %v", n, y, e, d.Stopped())
		}
		for _, cut := range [][]int{nil, {64}, {0, 64}, {17}} {
			checkSame(t, "P12, stopped while it was opened", reopen(t, d.Crash(cut)), m, tokens)
		}
	}
}

// Books on two disks go on beside one another, also when one of the disks stops.
func TestTwoDisks(t *testing.T) {
	d, e := disk.New(), disk.New()
	x, y := reopen(t, d), reopen(t, e)
	m, o := newModel(), newModel()
	lines, others := history(11, 200), history(12, 200)
	for i := range lines {
		m.check(t, x, lines[i])
		o.check(t, y, others[i])
		if i%20 == 0 {
			x, y = reopen(t, d), reopen(t, e)
		}
	}
	d.Stop(0)
	play(t, x, "POOL zz ann 99.0.0.0/24 -> ")
	for i := range 50 {
		o.check(t, y, fmt.Sprintf("POOL n%d ann 99.0.0.0/24", i))
		o.check(t, y, fmt.Sprintf("DROP m%d ann 99.0.0.0/24", i))
	}
	checkSame(t, "P2", reopen(t, e), o, tokensOf(others))
	checkSame(t, "P2", reopen(t, d.Crash(nil)), m, tokensOf(lines))
}

// The disk that a crash leaves and the one that goes on have nothing to do with one another.
func TestCrashedCopyGoesItsOwnWay(t *testing.T) {
	d := disk.New()
	x := reopen(t, d)
	play(t, x, "POOL a ann 10.0.0.0/24 -> OK")
	c := d.Crash(nil)
	y := reopen(t, c)
	play(t, y, "POOL b bob 10.0.1.0/24 -> OK", "DROP c ann 10.0.0.0/24 -> OK")
	play(t, x, "POOL b cy 10.0.2.0/24 -> OK", "POOLS -> OK 10.0.0.0/24=ann 10.0.2.0/24=cy")
	play(t, y, "POOLS -> OK 10.0.1.0/24=bob")
	play(t, reopen(t, d), "POOLS -> OK 10.0.0.0/24=ann 10.0.2.0/24=cy")
	play(t, reopen(t, c), "POOLS -> OK 10.0.1.0/24=bob")
}

// Nothing is promised of a disk on which anybody else wrote, but that no call panics.
func TestForeignDisks(t *testing.T) {
	base := disk.New()
	lines := history(41, 120)
	x := reopen(t, base)
	for _, line := range lines {
		x.Do(line)
	}
	r := rand.New(rand.NewPCG(41, 6))
	for range 3000 {
		d := base.Crash(nil)
		for range 1 + r.IntN(4) {
			sector := r.IntN(80)
			data := []byte(d.Read(sector))
			data[r.IntN(len(data))] = byte(r.IntN(256))
			d.Write(sector, string(data))
		}
		y, e := Open(d)
		if (y == nil) != (e != api.OK) {
			t.Fatalf("P1: Open of a disk on which somebody else wrote: %v, %d", y, e)
		}
		if y == nil {
			continue
		}
		for _, line := range lines[100:] {
			y.Do(line)
		}
		whole(y)
	}
}
