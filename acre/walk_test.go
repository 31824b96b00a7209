package acre

import (
	"fmt"
	"maps"
	"math/rand/v2"
	"slices"
	"strings"
	"testing"

	"acre/api"
)

// walker makes lines that are likely to do something to the book that a model has.
type walker struct {
	*model
	pick  func(n int) int // a number below n
	lines []string        // those that it made
}

func one[T any](w *walker, list []T) T { return list[w.pick(len(list))] }

func sortedBlocks(all map[api.Block]string) []api.Block {
	return slices.SortedFunc(maps.Keys(all), func(a, b api.Block) int { return int(int64(a.Base) - int64(b.Base)) })
}

// token is mostly a new one.
func (w *walker) token() string {
	if w.pick(8) == 0 {
		return fmt.Sprintf("t%d", max(0, len(w.lines)-1-w.pick(12)))
	}
	return fmt.Sprintf("t%d", len(w.lines))
}

// owner is mostly the one that has the block.
func (w *walker) owner(has string) string {
	if has != "" && w.pick(6) > 0 {
		return has
	}
	return one(w, []string{"ann", "bob", "c"})
}

func (w *walker) poolBlock() api.Block {
	if len(w.pools) > 0 && w.pick(8) > 0 {
		return one(w, sortedBlocks(w.pools))
	}
	return w.anyPoolBlock()
}

func (w *walker) anyPoolBlock() api.Block {
	text := one(w, []string{"0.0.0.0/8", "10.0.0.0/8", "10.0.0.0/20", "10.0.16.0/21", "10.0.0.0/24", "10.0.1.0/24", "10.0.2.0/27", "10.0.2.32/28", "10.0.2.48/30", "10.0.3.0/26", "255.255.255.252/30", "255.255.255.224/27", "128.0.0.0/1", "10.0.0.0/31", "255.0.0.0/8"})
	b, _ := wantRead(text)
	return b
}

// within tells a block of so many Bits in another one, often at one of its ends.
func (w *walker) within(b api.Block, bits int) api.Block {
	first, behind := ends(b)
	size := uint64(1) << (32 - max(bits, b.Bits))
	at := one(w, []uint64{first, behind - size, first + uint64(w.pick(min(int(behind-first), 1<<20)))})
	return api.Block{Base: uint32(at / size * size), Bits: max(bits, b.Bits)}
}

func (w *walker) netBlock() api.Block {
	if len(w.nets) > 0 && w.pick(8) > 0 {
		return one(w, sortedBlocks(w.nets))
	}
	return w.within(w.poolBlock(), 22+w.pick(11))
}

func (w *walker) address() uint32 {
	if len(w.leases) > 0 && w.pick(3) == 0 {
		return one(w, slices.Sorted(maps.Keys(w.leases)))
	}
	return w.within(w.netBlock(), 32).Base
}

// line makes a line; growing tells whether the book is rather to grow or to shrink.
func (w *walker) line(growing bool) string {
	if len(w.lines) > 0 && w.pick(16) == 0 {
		return w.lines[max(0, len(w.lines)-1-w.pick(12))]
	}
	more := []string{"POOL", "NET", "BLOCK", "LEASE", "TAKE", "NET", "LEASE", "LEASE", "TAKE"}
	less := []string{"DROP", "FREE", "GIVE", "FREE", "GIVE", "GIVE"}
	verbs := append(slices.Clone(more), less...)
	if growing {
		verbs = append(append(verbs, more...), more...)
	} else {
		verbs = append(append(verbs, less...), less...)
	}
	switch v := one(w, verbs); v {
	case "POOL":
		return fmt.Sprintf("POOL %s %s %s", w.token(), w.owner(""), slashed(w.anyPoolBlock()))
	case "DROP":
		b := w.poolBlock()
		return fmt.Sprintf("DROP %s %s %s", w.token(), w.owner(w.pools[b]), slashed(b))
	case "NET":
		return fmt.Sprintf("NET %s %s %s %d", w.token(), w.owner(""), slashed(w.poolBlock()), one(w, []int{w.pick(33), 22 + w.pick(11), 28 + w.pick(5)}))
	case "BLOCK":
		return fmt.Sprintf("BLOCK %s %s %s", w.token(), w.owner(""), slashed(w.within(w.poolBlock(), one(w, []int{w.pick(33), 22 + w.pick(11), 28 + w.pick(5)}))))
	case "FREE", "LEASE":
		b := w.netBlock()
		return fmt.Sprintf("%s %s %s %s", v, w.token(), w.owner(w.nets[b]), slashed(b))
	case "TAKE", "GIVE":
		a := w.address()
		return fmt.Sprintf("%s %s %s %s", v, w.token(), w.owner(w.leases[a]), dotted(a))
	}
	return ""
}

// step does one line on the book, and holds the answer and now and then the whole book against the model.
func (w *walker) step(t testing.TB, x *Book, growing bool) string {
	t.Helper()
	line := w.line(growing)
	w.lines = append(w.lines, line)
	answer := w.check(t, x, line)
	if w.pick(4) == 0 {
		w.check(t, x, "POOLS")
		w.check(t, x, "NETS "+slashed(w.poolBlock()))
		w.check(t, x, "USED "+slashed(w.netBlock()))
	}
	verb, _, _ := strings.Cut(line, " ")
	if strings.HasPrefix(answer, "OK") {
		answer = "OK"
	}
	return verb + ": " + answer
}

// allKinds are the verbs with each way in which they may be answered.
func allKinds() []string {
	var out []string
	for verb, words := range map[string]string{
		"POOL": "RANGE OVERLAP LIMIT", "DROP": "POOL OWNER BUSY", "NET": "POOL RANGE FULL LIMIT", "BLOCK": "RANGE POOL OVERLAP LIMIT", "FREE": "NET OWNER BUSY",
		"LEASE": "NET FULL LIMIT", "TAKE": "NET ADDR TAKEN LIMIT", "GIVE": "ADDR OWNER",
	} {
		out = append(out, verb+": OK", verb+": ERR TOKEN")
		for _, w := range strings.Fields(words) {
			out = append(out, verb+": ERR "+w)
		}
	}
	return out
}

// Long walks of lines are answered as the model answers them, and come by every kind of answer.
func TestWalks(t *testing.T) {
	seen := map[string]int{}
	for seed := range uint64(40) {
		r := rand.New(rand.NewPCG(seed, 1))
		w := &walker{model: newModel(), pick: r.IntN}
		x := begin(t)
		for i := range 1500 {
			seen[w.step(t, x, i/300%2 == 0)]++
		}
	}
	for _, kind := range allKinds() {
		if seen[kind] == 0 {
			t.Errorf("no walk came by %s", kind)
		}
	}
	if len(seen) != len(allKinds()) {
		t.Errorf("the walks came by %d kinds of answers, want %d: %v", len(seen), len(allKinds()), seen)
	}
}

// What P13 names is seen in the answers alone, behind every line of a walk.
func TestWhatFollows(t *testing.T) {
	r := rand.New(rand.NewPCG(99, 1))
	w := &walker{model: newModel(), pick: r.IntN}
	x := begin(t)
	for i := range 1500 {
		w.step(t, x, i/300%2 == 0)
		checkApart(t, x)
	}
}

// checkApart looks whether pools and subnets lie apart, each where it belongs, and leases are usable.
func checkApart(t *testing.T, x *Book) {
	t.Helper()
	pools := readAll(t, toldBlocks(x.Do("POOLS")))
	checkDisjoint(t, pools)
	for _, p := range pools {
		nets := readAll(t, toldBlocks(x.Do("NETS "+slashed(p))))
		checkDisjoint(t, nets)
		for _, n := range nets {
			if !isIn(n, p) {
				t.Fatalf("P13: the subnet %s is not in the pool %s", slashed(n), slashed(p))
			}
			for _, a := range readAll(t, toldBlocks(x.Do("USED "+slashed(n)))) {
				if !isUsable(uint64(a.Base), n) {
					t.Fatalf("P13: %s is not usable in %s", slashed(a), slashed(n))
				}
			}
		}
	}
}

func readAll(t *testing.T, texts []string) []api.Block {
	t.Helper()
	var out []api.Block
	for _, s := range texts {
		if !strings.Contains(s, "/") {
			s += "/32"
		}
		out = append(out, mustRead(t, s))
	}
	checkDisjoint(t, out)
	return out
}

func checkDisjoint(t *testing.T, list []api.Block) {
	t.Helper()
	for i := 1; i < len(list); i++ {
		_, behind := ends(list[i-1])
		if first, _ := ends(list[i]); first < behind {
			t.Fatalf("P13: %s meets %s, or stands behind it", slashed(list[i]), slashed(list[i-1]))
		}
	}
}

// FuzzDo holds any lines, one behind the other, against the model.
func FuzzDo(f *testing.F) {
	f.Add("POOL a ann 10.0.0.0/23\nNET b ann 10.0.0.0/23 25\nLEASE c cy 10.0.0.0/25\nPOOLS\nNETS 10.0.0.0/23\nUSED 10.0.0.0/25")
	f.Add("POOL a ann 255.255.255.252/30\nBLOCK b ann 255.255.255.254/31\nTAKE c cy 255.255.255.255\nGIVE d cy 255.255.255.255\nFREE e ann 255.255.255.254/31\nDROP f ann 255.255.255.252/30\nDROP f ann 255.255.255.252/30")
	f.Fuzz(func(t *testing.T, all string) {
		x, m := begin(t), newModel()
		for line := range strings.SplitSeq(all, "\n") {
			m.check(t, x, line)
		}
	})
}
