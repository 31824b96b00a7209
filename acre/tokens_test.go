package acre

import (
	"strconv"
	"strings"
	"testing"
)

func TestNewBookIsEmpty(t *testing.T) {
	play(t, begin(t), "POOLS -> OK", "NETS 10.0.0.0/8 -> ERR POOL", "USED 10.0.0.0/24 -> ERR NET")
}

// Each command with OK, sent again, is answered again and not done again; with another line its token is refused.
func TestSameLineAgain(t *testing.T) {
	x := begin(t)
	for _, c := range [][2]string{
		{"POOL a ann 10.0.0.0/24", "OK"}, {"NET b ann 10.0.0.0/24 28", "OK 10.0.0.0/28"}, {"BLOCK c ann 10.0.0.32/28", "OK"}, {"LEASE d ann 10.0.0.0/28", "OK 10.0.0.1"},
		{"TAKE e ann 10.0.0.9", "OK"}, {"GIVE f ann 10.0.0.9", "OK"}, {"FREE g ann 10.0.0.32/28", "OK"}, {"POOL h ann 10.0.1.0/24", "OK"}, {"DROP i ann 10.0.1.0/24", "OK"},
	} {
		play(t, x, c[0]+" -> "+c[1])
		before := whole(x)
		token := " " + strings.Split(c[0], " ")[1] + " "
		for range 2 {
			play(t, x, c[0]+" -> "+c[1], "POOL"+token+"bob 99.0.0.0/24 -> ERR TOKEN", "GIVE"+token+"bob 1.1.1.1 -> ERR TOKEN", "POOL"+token+"bob 98.0.0.0/7 -> ERR TOKEN")
		}
		if after := whole(x); after != before {
			t.Fatalf("P5: %q, sent again, changed %q to %q", c[0], before, after)
		}
	}
}

func TestLineIsAskedAheadOfToken(t *testing.T) {
	play(t, begin(t), "POOL a ann 10.0.0.0/24 -> OK", "POOL a ann 10.0.0.0/33 -> ERR LINE", "POOL a ann 10.0.0.0/24  -> ERR LINE", "DROP a bob 10.0.0.0/24 -> ERR TOKEN")
}

// What is refused stays out of the table: its token is free for another line.
func TestRefusedTokensAreNotKept(t *testing.T) {
	play(t, begin(t),
		"POOL a ann 10.0.0.0/31 -> ERR RANGE", "POOL a ann 10.0.0.0/31 -> ERR RANGE",
		"POOL a ann 10.0.0.0/24 -> OK",
		"NET b ann 10.0.0.0/24 21 -> ERR RANGE", "NET b ann 10.0.0.0/24 24 -> OK 10.0.0.0/24",
		"NET c ann 10.0.0.0/24 24 -> ERR FULL", "FREE d ann 10.0.0.0/24 -> OK", "NET c ann 10.0.0.0/24 24 -> OK 10.0.0.0/24")
}

// An answer of the table is the old one, though the book has gone on.
func TestOldAnswerIsKept(t *testing.T) {
	play(t, begin(t),
		"POOL a ann 10.0.0.0/24 -> OK", "NET b ann 10.0.0.0/24 28 -> OK 10.0.0.0/28", "FREE c ann 10.0.0.0/28 -> OK", "DROP d ann 10.0.0.0/24 -> OK",
		"POOL a ann 10.0.0.0/24 -> OK", "NET b ann 10.0.0.0/24 28 -> OK 10.0.0.0/28", "POOLS -> OK")
}

func TestEightTokensAreKept(t *testing.T) {
	x := begin(t)
	play(t, x, "POOL p ann 10.0.0.0/16 -> OK")
	net := func(i int) string { return "NET t" + strconv.Itoa(i) + " ann 10.0.0.0/16 24" }
	answer := func(i int) string { return "OK 10.0." + strconv.Itoa(i) + ".0/24" }
	for i := range 20 {
		play(t, x, net(i)+" -> "+answer(i))
		for j := max(0, i-7); j <= i; j++ {
			play(t, x, net(j)+" -> "+answer(j), "FREE t"+strconv.Itoa(j)+" ann 10.0.0.0/24 -> ERR TOKEN")
		}
		if j := i - 8; j >= 0 {
			play(t, x, "FREE t"+strconv.Itoa(j)+" bob 10.0.0.0/24 -> ERR OWNER")
		}
	}
}

// Neither an old line sent again, nor what is refused, nor a question makes a token younger or older.
func TestOnlyNewCommandsWithOKMoveTheTable(t *testing.T) {
	x := begin(t)
	play(t, x, "POOL p ann 10.0.0.0/16 -> OK")
	for i := range 7 {
		play(t, x, "BLOCK b"+strconv.Itoa(i)+" ann 10.0."+strconv.Itoa(i)+".0/24 -> OK")
	}
	for range 20 {
		play(t, x, "POOL p ann 10.0.0.0/16 -> OK", "BLOCK b0 bob 10.0.9.0/24 -> ERR TOKEN", "BLOCK c bob 10.0.0.0/24 -> ERR OVERLAP", "POOLS -> OK 10.0.0.0/16=ann", "XX -> ERR LINE")
	}
	play(t, x, "POOL p ann 10.0.0.0/16 -> OK", "BLOCK c bob 10.0.9.0/24 -> OK", "POOL p ann 10.0.0.0/16 -> ERR OVERLAP", "BLOCK b0 ann 10.0.0.0/24 -> OK", "BLOCK d bob 10.0.10.0/24 -> OK", "BLOCK b0 ann 10.0.0.0/24 -> ERR OVERLAP", "BLOCK b1 ann 10.0.1.0/24 -> OK")
}

func TestBooksHaveNothingToDoWithOneAnother(t *testing.T) {
	x, y := begin(t), begin(t)
	play(t, x, "POOL a ann 10.0.0.0/24 -> OK")
	play(t, y, "POOLS -> OK", "POOL a bob 10.0.0.0/25 -> OK")
	play(t, x, "POOLS -> OK 10.0.0.0/24=ann", "POOL a ann 10.0.0.0/24 -> OK")
	play(t, y, "POOLS -> OK 10.0.0.0/25=bob", "POOL a ann 10.0.0.0/24 -> ERR TOKEN")
}
