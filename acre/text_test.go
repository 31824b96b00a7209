package acre

import (
	"math"
	"net/netip"
	"strings"
	"testing"

	"acre/api"
)

// bases are addresses at the ends, in the middle and with mixed bits.
func bases() []uint32 {
	return []uint32{0, 1, 255, 256, 1 << 31, 1<<31 - 1, 167772160, 167772417, 3232235777, 0xAAAAAAAA, 0x55555555, math.MaxUint32 - 1, math.MaxUint32}
}

// rightBlocks are the right blocks of all Bits that the bases are in.
func rightBlocks() []api.Block {
	var out []api.Block
	for bits := 0; bits <= 32; bits++ {
		for _, base := range bases() {
			size := uint64(1) << (32 - bits)
			out = append(out, api.Block{Base: uint32(uint64(base) / size * size), Bits: bits})
		}
	}
	return out
}

// wrongBlocks have Bits that no block has, or a Base that does not fit the Bits.
func wrongBlocks() []api.Block {
	var out []api.Block
	for _, bits := range []int{-1, 33, -31, -32, -33, 31 + 33, 255, 256, 1 << 32, 1<<32 + 8, -1 << 32, math.MaxInt, math.MaxInt - 1, math.MinInt, math.MinInt + 1, math.MinInt + 32} {
		for _, base := range bases() {
			out = append(out, api.Block{Base: base, Bits: bits})
		}
	}
	for bits := 0; bits < 32; bits++ {
		out = append(out, api.Block{Base: math.MaxUint32, Bits: bits}, api.Block{Base: 1, Bits: bits}, api.Block{Base: 1 << (31 - bits), Bits: bits})
	}
	return out
}

// wantRead tells what Read is to answer, as the library's own reader of such texts sees it.
func wantRead(s string) (api.Block, api.Errno) {
	p, err := netip.ParsePrefix(s)
	if err != nil || !p.Addr().Is4() || p.Masked() != p {
		return api.Block{}, api.ErrText
	}
	four := p.Addr().As4()
	base := uint32(four[0])<<24 | uint32(four[1])<<16 | uint32(four[2])<<8 | uint32(four[3])
	return api.Block{Base: base, Bits: p.Bits()}, api.OK
}

func checkRead(t *testing.T, s string) {
	t.Helper()
	want, wantError := wantRead(s)
	if b, e := Read(s); b != want || e != wantError {
		t.Errorf("P3: Read(%.60q) = %+v, %d, want %+v, %d", s, b, e, want, wantError)
	}
}

func TestReadAndWriteNamedTexts(t *testing.T) {
	for _, c := range []struct {
		s string
		b api.Block
	}{
		{"10.0.0.0/8", api.Block{Base: 167772160, Bits: 8}},
		{"0.0.0.0/0", api.Block{}},
		{"0.0.0.0/32", api.Block{Bits: 32}},
		{"255.255.255.255/32", api.Block{Base: math.MaxUint32, Bits: 32}},
		{"255.255.255.254/31", api.Block{Base: math.MaxUint32 - 1, Bits: 31}},
		{"128.0.0.0/1", api.Block{Base: 1 << 31, Bits: 1}},
		{"1.2.3.4/32", api.Block{Base: 0x01020304, Bits: 32}},
		{"100.109.99.90/31", api.Block{Base: 0x646D635A, Bits: 31}},
	} {
		if b, e := Read(c.s); b != c.b || e != api.OK {
			t.Errorf("P3: Read(%q) = %+v, %d, want %+v", c.s, b, e, c.b)
		}
		if s, e := Write(c.b); s != c.s || e != api.OK {
			t.Errorf("P3: Write(%+v) = %q, %d, want %q", c.b, s, e, c.s)
		}
	}
}

func TestReadAndWriteGoBackAndForth(t *testing.T) {
	for _, b := range rightBlocks() {
		s, e := Write(b)
		if e != api.OK {
			t.Errorf("P3: Write(%+v) = %q, %d", b, s, e)
		}
		if want, wantError := wantRead(s); want != b || wantError != api.OK {
			t.Errorf("P3: Write(%+v) = %q, which is %+v, %d", b, s, want, wantError)
		}
		if r, e := Read(s); r != b || e != api.OK {
			t.Errorf("P3: Read(%q) = %+v, %d, want %+v", s, r, e, b)
		}
	}
}

func TestReadOfWrongTexts(t *testing.T) {
	for _, s := range []string{
		"", "/", ".", ".../", "...", "8", "/8", "10.0.0.0", "10.0.0.0/", "10.0.0/8", "10.0.0.0.0/8", "10.0.0.0./8", ".10.0.0.0/8", "10..0.0/8", "10.0.0.0/8/8", "10.0.0.0//8",
		"10.0.0.1/8", "128.0.0.0/0", "0.0.0.1/31", "0.0.0.1/0", "255.255.255.255/31",
		"010.0.0.0/8", "10.00.0.0/8", "10.0.0.00/8", "10.0.0.0/08", "10.0.0.0/00", "0.0.0.0/000", "00.0.0.0/0",
		"256.0.0.0/8", "10.0.0.256/32", "1000.0.0.0/8", "10.0.0.0/33", "0.0.0.0/33", "0.0.0.0/100", "0.0.0.0/256",
		"-0.0.0.0/0", "0.0.0.0/-0", "0.0.0.0/-1", "0.0.0.0/+0", "+10.0.0.0/8", "10.0.0.0/+8", "10.-0.0.0/8",
		" 10.0.0.0/8", "10.0.0.0/8 ", "10.0.0.0 /8", "10.0.0.0/ 8", "10.0.0.0/8\n", "\t10.0.0.0/8", "10.0.0.0/8\x00", "\x0010.0.0.0/8",
		"0xa.0.0.0/8", "10.0.0.0/0x8", "1e1.0.0.0/8", "1_0.0.0.0/8", "10.0.0.0/1_6", "a.0.0.0/8", "10,0,0,0/8", "10.0.0.0\\8", "10.0.0.0:8", "10.0.0.0/255.0.0.0", "167772160/8",
		"١٠.0.0.0/8", "10.0.0.0/８", "10。0。0。0/8", "10.0.0.0/8\xff", "\xff", "::/0", "::ffff:10.0.0.0/104",
		"4294967296.0.0.0/8", "18446744073709551626.0.0.0/8", "10.0.0.0/4294967304", "10.0.0.0/18446744073709551624",
		strings.Repeat("1", 1<<20), strings.Repeat(".", 1<<20), strings.Repeat("/", 1<<20), strings.Repeat("0", 1<<20) + ".0.0.0/8", "10.0.0.0/8" + strings.Repeat(" ", 1<<20), "10.0.0.0/" + strings.Repeat("0", 1<<20) + "8",
	} {
		if b, e := Read(s); b != (api.Block{}) || e != api.ErrText {
			t.Errorf("P3: Read(%.60q) = %+v, %d, want ErrText", s, b, e)
		}
	}
}

// Texts one byte away from a right one: each byte is left out, put in and changed.
func TestReadOfTextsNearby(t *testing.T) {
	const other = "0123456789./+-_ ax\x00\xff"
	for _, s := range []string{"10.0.0.0/8", "0.0.0.0/0", "255.255.255.255/32", "192.168.10.0/24", "255.255.255.128/25", "99.109.200.4/30"} {
		checkRead(t, s)
		for i := 0; i <= len(s); i++ {
			checkRead(t, s[:i])
			checkRead(t, s[i:])
			for _, c := range []byte(other) {
				checkRead(t, s[:i]+string([]byte{c})+s[i:])
				if i < len(s) {
					checkRead(t, s[:i]+string([]byte{c})+s[i+1:])
				}
			}
			if i < len(s) {
				checkRead(t, s[:i]+s[i+1:])
			}
		}
	}
}

func TestWriteOfWrongBlocks(t *testing.T) {
	for _, b := range wrongBlocks() {
		if s, e := Write(b); s != "" || e != api.ErrBlock {
			t.Errorf("P3: Write(%+v) = %q, %d, want ErrBlock", b, s, e)
		}
	}
}

func FuzzRead(f *testing.F) {
	for _, s := range []string{"", "10.0.0.0/8", "255.255.255.255/32", "10.0.0.0/08", "::/0"} {
		f.Add(s)
	}
	f.Fuzz(checkRead)
}
