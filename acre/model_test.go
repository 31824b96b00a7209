package acre

import (
	"maps"
	"net/netip"
	"regexp"
	"slices"
	"strconv"
	"strings"
	"testing"

	"acre/api"
)

// model is the book again, by the plainest means: maps, and the document's words tried out one by one.
type model struct {
	pools, nets map[api.Block]string
	leases      map[uint32]string
	done        []doneCommand
}

type doneCommand struct{ token, line, answer string }

func newModel() *model {
	return &model{pools: map[api.Block]string{}, nets: map[api.Block]string{}, leases: map[uint32]string{}}
}

func (m *model) clone() *model {
	return &model{pools: maps.Clone(m.pools), nets: maps.Clone(m.nets), leases: maps.Clone(m.leases), done: slices.Clone(m.done)}
}

// check holds the book's answer to a line against the model's, and tells it.
func (m *model) check(t testing.TB, x *Book, line string) string {
	t.Helper()
	want := m.do(line)
	if a := x.Do(line); a != want {
		t.Fatalf("Do(%q) = %q, want %q\n%s", line, a, want, whole(x))
	}
	return want
}

var lineForm = regexp.MustCompile(`^(?:(POOL|DROP|NET|BLOCK|FREE|LEASE|TAKE|GIVE) ([a-z0-9]{1,8}) ([a-z0-9]{1,8}) ([0-9./]+)(?: (0|[1-9][0-9]?))?|(POOLS)|(NETS|USED) ([0-9./]+))$`)

// asked is a line taken apart.
type asked struct {
	verb, token, owner string
	block              api.Block
	address            uint32
	length             int
}

func takeApart(line string) (asked, bool) {
	f := lineForm.FindStringSubmatch(line)
	if f == nil || len(line) > 100 {
		return asked{}, false
	}
	a := asked{verb: f[1] + f[6] + f[7], token: f[2], owner: f[3]}
	if (a.verb == "NET") != (f[5] != "") {
		return asked{}, false
	}
	a.length, _ = strconv.Atoi(f[5])
	what := f[4] + f[8]
	switch a.verb {
	case "POOLS":
		return a, true
	case "TAKE", "GIVE":
		p, err := netip.ParseAddr(what)
		if err != nil {
			return asked{}, false
		}
		for _, b := range p.As4() {
			a.address = a.address*256 + uint32(b)
		}
		return a, true
	}
	b, e := wantRead(what)
	a.block = b
	return a, e == api.OK && a.length <= 32
}

func (m *model) do(line string) string {
	a, right := takeApart(line)
	if !right {
		return "ERR LINE"
	}
	if a.token == "" {
		return m.ask(a)
	}
	for _, d := range m.done {
		if d.token == a.token && d.line == line {
			return d.answer
		}
		if d.token == a.token {
			return "ERR TOKEN"
		}
	}
	answer := m.command(a)
	if strings.HasPrefix(answer, "OK") {
		m.done = append(m.done, doneCommand{a.token, line, answer})
		m.done = m.done[max(0, len(m.done)-8):]
	}
	return answer
}

func (m *model) ask(a asked) string {
	switch _, isPool := m.pools[a.block]; {
	case a.verb == "POOLS":
		return "OK" + m.list(m.pools, api.Block{})
	case a.verb == "NETS" && !isPool:
		return "ERR POOL"
	case a.verb == "NETS":
		return "OK" + m.list(m.nets, a.block)
	}
	if _, isNet := m.nets[a.block]; !isNet {
		return "ERR NET"
	}
	out := "OK"
	for _, address := range slices.Sorted(maps.Keys(m.leases)) {
		if isIn(api.Block{Base: address, Bits: 32}, a.block) {
			out += " " + dotted(address) + "=" + m.leases[address]
		}
	}
	return out
}

func (m *model) list(all map[api.Block]string, in api.Block) string {
	out := ""
	for _, b := range slices.SortedFunc(maps.Keys(all), func(a, b api.Block) int { return int(int64(a.Base) - int64(b.Base)) }) {
		if isIn(b, in) {
			out += " " + slashed(b) + "=" + all[b]
		}
	}
	return out
}

func dotted(a uint32) string {
	return netip.AddrFrom4([4]byte{byte(a >> 24), byte(a >> 16), byte(a >> 8), byte(a)}).String()
}

func slashed(b api.Block) string { return dotted(b.Base) + "/" + strconv.Itoa(b.Bits) }

func (m *model) command(a asked) string {
	switch a.verb {
	case "POOL":
		return m.makePool(a)
	case "DROP":
		return m.drop(a.block, a.owner, m.pools, "POOL", m.inUse(a.block))
	case "NET":
		return m.carve(a)
	case "BLOCK":
		return m.carveJust(a)
	case "FREE":
		return m.drop(a.block, a.owner, m.nets, "NET", m.ask(asked{verb: "USED", block: a.block}) != "OK")
	case "LEASE":
		return m.lease(a)
	case "TAKE":
		return m.take(a)
	}
	owner, leased := m.leases[a.address]
	if !leased {
		return "ERR ADDR"
	}
	if owner != a.owner {
		return "ERR OWNER"
	}
	delete(m.leases, a.address)
	return "OK"
}

func crossing(a, b api.Block) bool { return isIn(a, b) || isIn(b, a) }

func meetsOne(all map[api.Block]string, b api.Block) bool {
	for o := range all {
		if crossing(o, b) {
			return true
		}
	}
	return false
}

func (m *model) inUse(pool api.Block) bool { return m.list(m.nets, pool) != "" }

func (m *model) makePool(a asked) string {
	switch {
	case a.block.Bits < 8 || a.block.Bits > 30:
		return "ERR RANGE"
	case meetsOne(m.pools, a.block):
		return "ERR OVERLAP"
	case len(m.pools) == 6:
		return "ERR LIMIT"
	}
	m.pools[a.block] = a.owner
	return "OK"
}

func (m *model) drop(b api.Block, owner string, all map[api.Block]string, kind string, busy bool) string {
	has, found := all[b]
	switch {
	case !found:
		return "ERR " + kind
	case has != owner:
		return "ERR OWNER"
	case busy:
		return "ERR BUSY"
	}
	delete(all, b)
	return "OK"
}

// isFree tells whether a block is a free one of the pool, in the document's words.
func (m *model) isFree(b, pool api.Block) bool {
	if !isIn(b, pool) || meetsOne(m.nets, b) {
		return false
	}
	p, _ := Parent(b)
	return b.Bits == pool.Bits || meetsOne(m.nets, p)
}

// near tells blocks of so many Bits in the pool by rising Bases: all of them, or, if they are very many, those that could be free: the buddies of what has a subnet.
func (m *model) near(pool api.Block, bits int) []api.Block {
	var out []api.Block
	if bits-pool.Bits <= 8 {
		for i := range uint32(1) << (bits - pool.Bits) {
			out = append(out, api.Block{Base: pool.Base + uint32(uint64(i)<<(32-bits)), Bits: bits})
		}
		return out
	}
	for n := range m.nets {
		if n.Bits >= bits {
			u, _ := Buddy(api.Block{Base: uint32(uint64(n.Base) >> (32 - bits) << (32 - bits)), Bits: bits})
			out = append(out, u)
		}
	}
	slices.SortFunc(out, func(a, b api.Block) int { return int(int64(a.Base) - int64(b.Base)) })
	return out
}

func (m *model) carve(a asked) string {
	if _, found := m.pools[a.block]; !found {
		return "ERR POOL"
	}
	if a.length < 22 || a.length < a.block.Bits {
		return "ERR RANGE"
	}
	for bits := a.length; bits >= a.block.Bits; bits-- {
		for _, b := range m.near(a.block, bits) {
			if !m.isFree(b, a.block) {
				continue
			}
			if len(m.nets) == 24 {
				return "ERR LIMIT"
			}
			b.Bits = a.length
			m.nets[b] = a.owner
			return "OK " + slashed(b)
		}
	}
	return "ERR FULL"
}

func (m *model) carveJust(a asked) string {
	if a.block.Bits < 22 {
		return "ERR RANGE"
	}
	found := false
	for p := range m.pools {
		found = found || isIn(a.block, p)
	}
	switch {
	case !found:
		return "ERR POOL"
	case meetsOne(m.nets, a.block):
		return "ERR OVERLAP"
	case len(m.nets) == 24:
		return "ERR LIMIT"
	}
	m.nets[a.block] = a.owner
	return "OK"
}

func isUsable(address uint64, n api.Block) bool {
	first, behind := ends(n)
	if n.Bits <= 30 && (address == first || address == behind-1) {
		return false
	}
	return address >= first && address < behind
}

func (m *model) lease(a asked) string {
	if _, found := m.nets[a.block]; !found {
		return "ERR NET"
	}
	first, behind := ends(a.block)
	for address := first; address < behind; address++ {
		if _, leased := m.leases[uint32(address)]; leased || !isUsable(address, a.block) {
			continue
		}
		if len(m.leases) == 40 {
			return "ERR LIMIT"
		}
		m.leases[uint32(address)] = a.owner
		return "OK " + dotted(uint32(address))
	}
	return "ERR FULL"
}

func (m *model) take(a asked) string {
	for n := range m.nets {
		if !isIn(api.Block{Base: a.address, Bits: 32}, n) {
			continue
		}
		_, leased := m.leases[a.address]
		switch {
		case !isUsable(uint64(a.address), n):
			return "ERR ADDR"
		case leased:
			return "ERR TAKEN"
		case len(m.leases) == 40:
			return "ERR LIMIT"
		}
		m.leases[a.address] = a.owner
		return "OK"
	}
	return "ERR NET"
}
