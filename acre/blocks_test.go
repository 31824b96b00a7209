package acre

import (
	"math"
	"testing"

	"acre/api"
)

// ends tells the first address of a right block and the first one behind it.
func ends(b api.Block) (uint64, uint64) {
	return uint64(b.Base), uint64(b.Base) + 1<<(32-b.Bits)
}

// isIn tells whether all addresses of a right block are in another.
func isIn(inner, outer api.Block) bool {
	first, behind := ends(inner)
	outerFirst, outerBehind := ends(outer)
	return first >= outerFirst && behind <= outerBehind
}

func isRight(b api.Block) bool {
	return b.Bits >= 0 && b.Bits <= 32 && uint64(b.Base)%(1<<(32-b.Bits)) == 0
}

func TestNamedKin(t *testing.T) {
	for _, c := range []struct{ block, parent, buddy, low, high string }{
		{"10.0.1.0/24", "10.0.0.0/23", "10.0.0.0/24", "10.0.1.0/25", "10.0.1.128/25"},
		{"10.0.0.0/24", "10.0.0.0/23", "10.0.1.0/24", "10.0.0.0/25", "10.0.0.128/25"},
		{"0.0.0.0/1", "0.0.0.0/0", "128.0.0.0/1", "0.0.0.0/2", "64.0.0.0/2"},
		{"128.0.0.0/1", "0.0.0.0/0", "0.0.0.0/1", "128.0.0.0/2", "192.0.0.0/2"},
		{"0.0.0.0/31", "0.0.0.0/30", "0.0.0.2/31", "0.0.0.0/32", "0.0.0.1/32"},
		{"255.255.255.254/31", "255.255.255.252/30", "255.255.255.252/31", "255.255.255.254/32", "255.255.255.255/32"},
	} {
		b := mustRead(t, c.block)
		if p, e := Parent(b); p != mustRead(t, c.parent) || e != api.OK {
			t.Errorf("P4: Parent(%s) = %+v, %d, want %s", c.block, p, e, c.parent)
		}
		if u, e := Buddy(b); u != mustRead(t, c.buddy) || e != api.OK {
			t.Errorf("P4: Buddy(%s) = %+v, %d, want %s", c.block, u, e, c.buddy)
		}
		if x, y, e := Halves(b); x != mustRead(t, c.low) || y != mustRead(t, c.high) || e != api.OK {
			t.Errorf("P4: Halves(%s) = %+v, %+v, %d, want %s, %s", c.block, x, y, e, c.low, c.high)
		}
	}
}

func mustRead(t *testing.T, s string) api.Block {
	t.Helper()
	b, e := Read(s)
	if e != api.OK {
		t.Fatalf("P3: Read(%q): %d", s, e)
	}
	return b
}

func TestParentAndBuddyOfRightBlocks(t *testing.T) {
	for _, b := range rightBlocks() {
		p, e := Parent(b)
		u, f := Buddy(b)
		if b.Bits == 0 {
			if p != (api.Block{}) || u != (api.Block{}) || e != api.ErrBlock || f != api.ErrBlock {
				t.Errorf("P4: of all addresses: parent %+v, %d, buddy %+v, %d", p, e, u, f)
			}
			continue
		}
		if e != api.OK || !isRight(p) || p.Bits != b.Bits-1 || !isIn(b, p) {
			t.Errorf("P4: Parent(%+v) = %+v, %d", b, p, e)
		}
		if f != api.OK || !isRight(u) || u.Bits != b.Bits || u == b || !isIn(u, p) {
			t.Errorf("P4: Buddy(%+v) = %+v, %d", b, u, f)
		}
	}
}

func TestHalvesOfRightBlocks(t *testing.T) {
	for _, b := range rightBlocks() {
		x, y, e := Halves(b)
		if b.Bits == 32 {
			if x != (api.Block{}) || y != (api.Block{}) || e != api.ErrBlock {
				t.Errorf("P4: Halves(%+v) = %+v, %+v, %d, want ErrBlock", b, x, y, e)
			}
			continue
		}
		if e != api.OK || !isRight(x) || !isRight(y) || x.Bits != b.Bits+1 || y.Bits != b.Bits+1 {
			t.Fatalf("P4: Halves(%+v) = %+v, %+v, %d", b, x, y, e)
		}
		first, behind := ends(b)
		lowFirst, lowBehind := ends(x)
		highFirst, highBehind := ends(y)
		if lowFirst != first || lowBehind != highFirst || highBehind != behind {
			t.Errorf("P4: Halves(%+v) = %+v, %+v", b, x, y)
		}
	}
}

func TestMeetOfRightBlocks(t *testing.T) {
	all := rightBlocks()
	for _, a := range all {
		for _, b := range all {
			first, behind := ends(a)
			otherFirst, otherBehind := ends(b)
			want := first < otherBehind && otherFirst < behind
			if Meet(a, b) != want {
				t.Errorf("P4: Meet(%+v, %+v) = %v", a, b, !want)
			}
		}
	}
}

func TestMeetOfNeighbours(t *testing.T) {
	for _, b := range rightBlocks() {
		if u, e := Buddy(b); e == api.OK && (Meet(b, u) || Meet(u, b)) {
			t.Errorf("P4: %+v meets its buddy", b)
		}
		if p, e := Parent(b); e == api.OK && (!Meet(b, p) || !Meet(p, b)) {
			t.Errorf("P4: %+v does not meet its parent", b)
		}
	}
}

func TestKinOfWrongBlocks(t *testing.T) {
	nought := api.Block{}
	for _, b := range wrongBlocks() {
		if p, e := Parent(b); p != nought || e != api.ErrBlock {
			t.Errorf("P4: Parent(%+v) = %+v, %d, want ErrBlock", b, p, e)
		}
		if u, e := Buddy(b); u != nought || e != api.ErrBlock {
			t.Errorf("P4: Buddy(%+v) = %+v, %d, want ErrBlock", b, u, e)
		}
		if x, y, e := Halves(b); x != nought || y != nought || e != api.ErrBlock {
			t.Errorf("P4: Halves(%+v) = %+v, %+v, %d, want ErrBlock", b, x, y, e)
		}
	}
}

func TestMeetOfWrongBlocks(t *testing.T) {
	right := []api.Block{{}, {Bits: 32}, {Base: math.MaxUint32, Bits: 32}, {Base: 1 << 31, Bits: 1}}
	for _, b := range wrongBlocks() {
		if Meet(b, b) {
			t.Errorf("P4: %+v is not right, and meets itself", b)
		}
		for _, r := range right {
			if Meet(b, r) || Meet(r, b) {
				t.Errorf("P4: %+v is not right, and meets %+v", b, r)
			}
		}
	}
}
