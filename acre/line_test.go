package acre

import (
	"strings"
	"testing"

	"acre/api"
)

// forms has a right line of each verb.
func forms() []string {
	return []string{
		"POOL t1 ann 10.0.0.0/24", "DROP t1 ann 10.0.0.0/24", "NET t1 ann 10.0.0.0/24 28", "BLOCK t1 ann 10.0.0.0/28", "FREE t1 ann 10.0.0.0/28", "LEASE t1 ann 10.0.0.0/28",
		"TAKE t1 ann 10.0.0.1", "GIVE t1 ann 10.0.0.1", "POOLS", "NETS 10.0.0.0/24", "USED 10.0.0.0/28",
	}
}

func TestRightLinesAreLines(t *testing.T) {
	for _, line := range forms() {
		if a := begin(t).Do(line); a == "ERR LINE" || a == "" {
			t.Errorf("P5: Do(%q) = %q", line, a)
		}
	}
}

// checkNoLine does a line that is none; all has to stay as it was.
func checkNoLine(t *testing.T, line string) {
	t.Helper()
	x := begin(t)
	play(t, x, "POOL p ann 10.0.0.0/8 -> OK", "NET n ann 10.0.0.0/8 24 -> OK 10.0.0.0/24", "TAKE l ann 10.0.0.1 -> OK")
	before := whole(x)
	if a := x.Do(line); a != "ERR LINE" {
		t.Errorf("P5: Do(%.120q) = %q, want ERR LINE", line, a)
	}
	if after := whole(x); after != before {
		t.Errorf("P1: Do(%.120q) changed %q to %q", line, before, after)
	}
}

func TestBlanksAheadBehindAndDoubled(t *testing.T) {
	for _, line := range forms() {
		checkNoLine(t, " "+line)
		checkNoLine(t, line+" ")
		for i, c := range line {
			if c == ' ' {
				checkNoLine(t, line[:i]+" "+line[i:])
				for _, other := range []string{"", "\t", "\n", "\r", "\v", "\x00", "_", ",", "\u00a0", "\u2003"} {
					checkNoLine(t, line[:i]+other+line[i+1:])
				}
			}
		}
		for _, end := range []string{"\n", "\r\n", "\t", "\x00", ";"} {
			checkNoLine(t, line+end)
			checkNoLine(t, end+line)
		}
	}
}

func TestTooFewAndTooManyWords(t *testing.T) {
	for _, line := range forms() {
		words := strings.Split(line, " ")
		for i := range words {
			without := append(append([]string{}, words[:i]...), words[i+1:]...)
			checkNoLine(t, strings.Join(without, " "))
			twice := append(append([]string{}, words[:i+1]...), words[i:]...)
			checkNoLine(t, strings.Join(twice, " "))
		}
		for _, more := range []string{"x", "0", "24", "10.0.0.0/24", "10.0.0.1", "POOLS"} {
			checkNoLine(t, line+" "+more)
			checkNoLine(t, line+" "+more+" "+more)
		}
	}
}

func TestOtherVerbs(t *testing.T) {
	for _, line := range forms() {
		verb, rest, _ := strings.Cut(line, " ")
		for _, other := range []string{"", strings.ToLower(verb), verb[:1] + strings.ToLower(verb[1:]), verb + "X", verb + "SS", verb[1:], "OK", "ERR", "TOKEN", "QUIT", "0", "\xff", "ＰＯＯＬＳ"} {
			checkNoLine(t, strings.TrimSuffix(other+" "+rest, " "))
			checkNoLine(t, other+" "+rest)
		}
		checkNoLine(t, verb+" ")
		if verb != "POOLS" {
			checkNoLine(t, verb)
		}
	}
}

func TestNames(t *testing.T) {
	x := begin(t)
	play(t, x,
		"POOL a b 10.0.0.0/24 -> OK",
		"POOL 12345678 abcdefgh 10.0.1.0/24 -> OK",
		"POOL 0 9 10.0.2.0/24 -> OK",
		"POOL z09az z 10.0.3.0/24 -> OK",
		"POOLS -> OK 10.0.0.0/24=b 10.0.1.0/24=abcdefgh 10.0.2.0/24=9 10.0.3.0/24=z")
	for _, name := range []string{"", "123456789", "abcdefghi", "A", "aB", "a-", "a_b", "`", "{", "/", ":", "@", "[", "\xc3\xa9", "é", "a\x00", "\x00", "\xff", "a=b", strings.Repeat("a", 60)} {
		for _, verb := range []string{"POOL", "DROP", "BLOCK", "FREE", "LEASE"} {
			checkNoLine(t, verb+" "+name+" ann 10.0.0.0/24")
			checkNoLine(t, verb+" tok "+name+" 10.0.0.0/24")
		}
		checkNoLine(t, "NET "+name+" ann 10.0.0.0/8 24")
		checkNoLine(t, "NET tok "+name+" 10.0.0.0/8 24")
		for _, verb := range []string{"TAKE", "GIVE"} {
			checkNoLine(t, verb+" "+name+" ann 10.0.0.2")
			checkNoLine(t, verb+" tok "+name+" 10.0.0.2")
		}
	}
}

func TestWrongBlocksInLines(t *testing.T) {
	for _, block := range []string{"x", "10.0.0.0", "10.0.0.1/8", "10.0.0.0/08", "010.0.0.0/8", "10.0.0/8", "10.0.0.0/33", "10.0.0.0/-8", "10.0.0.0/+8", "10.0.0.0/", "/8", "256.0.0.0/8", "10.0.0.0/8/8", "10.0.0.0.0/8", "10.0.0.128/24", "0.0.0.1/31"} {
		for _, verb := range []string{"POOL", "DROP", "BLOCK", "FREE", "LEASE"} {
			checkNoLine(t, verb+" tok ann "+block)
		}
		checkNoLine(t, "NET tok ann "+block+" 24")
		checkNoLine(t, "NETS "+block)
		checkNoLine(t, "USED "+block)
	}
}

func TestWrongAddressesInLines(t *testing.T) {
	for _, address := range []string{"x", "10.0.0.1/32", "10.0.0.0/24", "10.0.0", "10.0.0.0.1", "10.0.0.256", "10.0.0.01", "010.0.0.1", "10.0.0.-1", "10.0.0.+1", "10.0.0.", ".0.0.1", "167772161", "::1"} {
		checkNoLine(t, "TAKE tok ann "+address)
		checkNoLine(t, "GIVE tok ann "+address)
	}
}

func TestLengthsInLines(t *testing.T) {
	for _, length := range []string{"33", "08", "00", "024", "-1", "-0", "+24", "2x", "0x18", "24.0", "/24", "100", "4294967320", "18446744073709551640"} {
		checkNoLine(t, "NET tok ann 10.0.0.0/8 "+length)
	}
	play(t, begin(t), "NET a ann 10.0.0.0/8 0 -> ERR POOL", "NET a ann 10.0.0.0/8 8 -> ERR POOL", "NET a ann 10.0.0.0/8 32 -> ERR POOL")
}

// No line that is one has 100 bytes, so that all of these are none whatever their length.
func TestLongLines(t *testing.T) {
	for _, n := range []int{api.MaxLine - 1, api.MaxLine, api.MaxLine + 1, 1 << 20} {
		for _, fill := range []string{" ", "a", "0", "POOL ", "POOLS ", "\x00", "é"} {
			for _, line := range append(forms(), "") {
				checkNoLine(t, (line + strings.Repeat(fill, n))[:n])
				checkNoLine(t, (line + " " + strings.Repeat(fill, n))[:n])
			}
		}
	}
}

// checkNearby does a line one byte away from a right one, and holds the answer against the model's.
func checkNearby(t *testing.T, line string) {
	t.Helper()
	x, m := begin(t), newModel()
	for _, s := range []string{"POOL p ann 10.0.0.0/24", "BLOCK n ann 10.0.0.0/28", "TAKE l ann 10.0.0.1"} {
		m.check(t, x, s)
	}
	m.check(t, x, line)
}

func TestLinesNearby(t *testing.T) {
	const other = "0129/. az`{@Z\x00\x7f\xff\t"
	for _, s := range forms() {
		for i := 0; i <= len(s); i++ {
			checkNearby(t, s[:i])
			checkNearby(t, s[i:])
			for _, c := range []byte(other) {
				checkNearby(t, s[:i]+string([]byte{c})+s[i:])
				if i < len(s) {
					checkNearby(t, s[:i]+string([]byte{c})+s[i+1:])
				}
			}
			if i < len(s) {
				checkNearby(t, s[:i]+s[i+1:])
			}
		}
	}
}
