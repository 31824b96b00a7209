package acre

import (
	"strconv"
	"testing"
)

func TestNetsOfTheExample(t *testing.T) {
	play(t, begin(t),
		"POOL a1 ann 10.0.0.0/23 -> OK", "NET a2 ann 10.0.0.0/23 25 -> OK 10.0.0.0/25", "NET a3 bob 10.0.0.0/23 24 -> OK 10.0.1.0/24", "NET a4 bob 10.0.0.0/23 26 -> OK 10.0.0.128/26",
		"NET a5 bob 10.0.0.0/23 24 -> ERR FULL", "NETS 10.0.0.0/23 -> OK 10.0.0.0/25=ann 10.0.0.128/26=bob 10.0.1.0/24=bob")
}

func TestNetLengths(t *testing.T) {
	for pool := 8; pool <= 30; pool++ {
		for length := 0; length <= 32; length++ {
			want := "OK 10.0.0.0/" + strconv.Itoa(length)
			if length < 22 || length < pool {
				want = "ERR RANGE"
			}
			block := "10.0.0.0/" + strconv.Itoa(pool)
			play(t, begin(t), "POOL a ann "+block+" -> OK", "NET b bob "+block+" "+strconv.Itoa(length)+" -> "+want)
		}
	}
}

// fill carves 24 subnets of one address each out of 10.0.0.0/27.
func fill(t *testing.T) *Book {
	t.Helper()
	x := begin(t)
	play(t, x, "POOL a ann 10.0.0.0/27 -> OK")
	for i := range 24 {
		n := strconv.Itoa(i)
		play(t, x, "NET n"+n+" ann 10.0.0.0/27 32 -> OK 10.0.0."+n+"/32")
	}
	return x
}

func TestNetRefusalsInTheirOrder(t *testing.T) {
	x := fill(t)
	play(t, x,
		"POOL b ann 10.1.0.0/28 -> OK",
		"NET c ann 10.0.0.0/26 0 -> ERR POOL", "NET c ann 10.0.0.0/28 32 -> ERR POOL", "NET c ann 10.0.0.5/32 32 -> ERR POOL",
		"NET c ann 10.0.0.0/27 26 -> ERR RANGE", "NET c ann 10.0.0.0/27 21 -> ERR RANGE",
		"NET c ann 10.0.0.0/27 27 -> ERR FULL", "NET c ann 10.0.0.0/27 28 -> ERR FULL",
		"NET c ann 10.0.0.0/27 29 -> ERR LIMIT", "NET c ann 10.0.0.0/27 32 -> ERR LIMIT", "NET c ann 10.1.0.0/28 28 -> ERR LIMIT", // the subnets of all pools are counted
		"FREE d ann 10.0.0.7/32 -> OK", "NET c ann 10.1.0.0/28 28 -> OK 10.1.0.0/28", "NET e ann 10.0.0.0/27 32 -> ERR LIMIT")
}

func TestBlockRefusalsInTheirOrder(t *testing.T) {
	x := fill(t)
	play(t, x,
		"POOL b ann 10.0.4.0/22 -> OK",
		"BLOCK c ann 10.0.0.0/21 -> ERR RANGE", "BLOCK c ann 0.0.0.0/0 -> ERR RANGE", "BLOCK c ann 99.0.0.0/8 -> ERR RANGE",
		"BLOCK c ann 10.0.0.0/26 -> ERR POOL", "BLOCK c ann 10.0.0.0/22 -> ERR POOL", "BLOCK c ann 10.0.0.32/32 -> ERR POOL", "BLOCK c ann 10.0.3.255/32 -> ERR POOL",
		"BLOCK c ann 10.0.0.0/27 -> ERR OVERLAP", "BLOCK c ann 10.0.0.23/32 -> ERR OVERLAP", "BLOCK c ann 10.0.0.22/31 -> ERR OVERLAP",
		"BLOCK c ann 10.0.0.24/32 -> ERR LIMIT", "BLOCK c ann 10.0.4.0/22 -> ERR LIMIT",
		"FREE d ann 10.0.0.23/32 -> OK", "BLOCK c bob 10.0.4.0/22 -> OK", "BLOCK e bob 10.0.0.23/32 -> ERR LIMIT",
		"NETS 10.0.4.0/22 -> OK 10.0.4.0/22=bob")
}

func TestBlocksOfAllBits(t *testing.T) {
	for bits := 0; bits <= 32; bits++ {
		want := "OK"
		if bits < 22 {
			want = "ERR RANGE"
		}
		b := "10.0.0.0/" + strconv.Itoa(bits)
		if bits < 7 {
			b = "0.0.0.0/" + strconv.Itoa(bits)
		}
		play(t, begin(t), "POOL a ann 10.0.0.0/8 -> OK", "BLOCK b ann "+b+" -> "+want)
	}
}

func TestFreeRefusalsInTheirOrder(t *testing.T) {
	play(t, begin(t),
		"POOL a ann 10.0.0.0/24 -> OK", "FREE b ann 10.0.0.0/24 -> ERR NET",
		"NET b bob 10.0.0.0/24 26 -> OK 10.0.0.0/26", "BLOCK c cy 10.0.0.64/26 -> OK", "LEASE d dan 10.0.0.0/26 -> OK 10.0.0.1",
		"FREE e ann 10.0.0.0/24 -> ERR NET", "FREE e ann 10.0.0.0/25 -> ERR NET", "FREE e ann 10.0.0.0/27 -> ERR NET", "FREE e ann 10.0.0.128/26 -> ERR NET", "FREE e dan 10.0.0.1/32 -> ERR NET",
		"FREE e ann 10.0.0.0/26 -> ERR OWNER", "FREE e dan 10.0.0.0/26 -> ERR OWNER", "FREE e bob 10.0.0.0/26 -> ERR BUSY",
		"FREE f cy 10.0.0.64/26 -> OK", "NETS 10.0.0.0/24 -> OK 10.0.0.0/26=bob",
		"GIVE g dan 10.0.0.1 -> OK", "FREE e bob 10.0.0.0/26 -> OK", "FREE h bob 10.0.0.0/26 -> ERR NET", "NETS 10.0.0.0/24 -> OK",
		"NET i ann 10.0.0.0/24 24 -> OK 10.0.0.0/24")
}

// Of the free blocks that suffice the smallest are looked at, of these the lowest.
func TestNetTakesTheSmallestThatSuffices(t *testing.T) {
	x := begin(t)
	play(t, x,
		"POOL a ann 10.0.0.0/20 -> OK",
		"BLOCK b ann 10.0.4.0/24 -> OK",              // free: 10.0.0.0/22, 10.0.5.0/24, 10.0.6.0/23, 10.0.8.0/21
		"NET c ann 10.0.0.0/20 23 -> OK 10.0.6.0/23", // not 10.0.0.0/22, which is lower and larger
		"NET d ann 10.0.0.0/20 23 -> OK 10.0.0.0/23", // free: 10.0.2.0/23, 10.0.5.0/24, 10.0.8.0/21
		"NET e ann 10.0.0.0/20 25 -> OK 10.0.5.0/25", // free: 10.0.2.0/23, 10.0.5.128/25, 10.0.8.0/21
		"NET f ann 10.0.0.0/20 32 -> OK 10.0.5.128/32",
		"NET g ann 10.0.0.0/20 22 -> OK 10.0.8.0/22", // free: 10.0.2.0/23, 10.0.12.0/22 and what is left of 10.0.5.128/25
		"NET h ann 10.0.0.0/20 24 -> OK 10.0.2.0/24",
		"NET i ann 10.0.0.0/20 23 -> OK 10.0.12.0/23",
		"NET j ann 10.0.0.0/20 22 -> ERR FULL",
		"NETS 10.0.0.0/20 -> OK 10.0.0.0/23=ann 10.0.2.0/24=ann 10.0.4.0/24=ann 10.0.5.0/25=ann 10.0.5.128/32=ann 10.0.6.0/23=ann 10.0.8.0/22=ann 10.0.12.0/23=ann")
}

// Two free buddies are one free block, however they came to be free.
func TestFreeBuddiesAreOneBlock(t *testing.T) {
	play(t, begin(t),
		"POOL a ann 10.0.0.0/22 -> OK", "NET b ann 10.0.0.0/22 23 -> OK 10.0.0.0/23", "NET c ann 10.0.0.0/22 24 -> OK 10.0.2.0/24", "NET d ann 10.0.0.0/22 25 -> OK 10.0.3.0/25",
		"FREE e ann 10.0.2.0/24 -> OK", "FREE f ann 10.0.3.0/25 -> OK", // free: 10.0.2.0/23, not the /24 and the /25s
		"NET g ann 10.0.0.0/22 23 -> OK 10.0.2.0/23", "FREE h ann 10.0.0.0/23 -> OK", "FREE i ann 10.0.2.0/23 -> OK", "NET j ann 10.0.0.0/22 22 -> OK 10.0.0.0/22")
}

func TestNetFillsAPoolAtTheVeryEnd(t *testing.T) {
	play(t, begin(t),
		"POOL a ann 255.255.255.252/30 -> OK", "NET b ann 255.255.255.252/30 31 -> OK 255.255.255.252/31", "NET c ann 255.255.255.252/30 32 -> OK 255.255.255.254/32",
		"NET d ann 255.255.255.252/30 31 -> ERR FULL", "NET d ann 255.255.255.252/30 32 -> OK 255.255.255.255/32", "NET e ann 255.255.255.252/30 32 -> ERR FULL", "NET e ann 255.255.255.252/30 30 -> ERR FULL",
		"NETS 255.255.255.252/30 -> OK 255.255.255.252/31=ann 255.255.255.254/32=ann 255.255.255.255/32=ann")
}

// Anybody may carve out of anybody's pool.
func TestSubnetsHaveOwnersOfTheirOwn(t *testing.T) {
	play(t, begin(t),
		"POOL a ann 10.0.0.0/24 -> OK", "NET b bob 10.0.0.0/24 25 -> OK 10.0.0.0/25", "BLOCK c cy 10.0.0.128/25 -> OK",
		"NETS 10.0.0.0/24 -> OK 10.0.0.0/25=bob 10.0.0.128/25=cy", "FREE d ann 10.0.0.0/25 -> ERR OWNER", "POOLS -> OK 10.0.0.0/24=ann")
}

func TestNetsAreThoseOfThePool(t *testing.T) {
	play(t, begin(t),
		"POOL a ann 10.0.1.0/24 -> OK", "POOL b bob 10.0.0.0/24 -> OK", "BLOCK c x 10.0.1.128/25 -> OK", "BLOCK d y 10.0.0.255/32 -> OK", "BLOCK e z 10.0.1.0/32 -> OK", "BLOCK f w 10.0.0.16/28 -> OK",
		"NETS 10.0.0.0/24 -> OK 10.0.0.16/28=w 10.0.0.255/32=y", "NETS 10.0.1.0/24 -> OK 10.0.1.0/32=z 10.0.1.128/25=x",
		"NETS 10.0.0.0/23 -> ERR POOL", "NETS 10.0.0.0/25 -> ERR POOL", "NETS 10.0.1.128/25 -> ERR POOL", "NETS 0.0.0.0/0 -> ERR POOL")
}
