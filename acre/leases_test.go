package acre

import (
	"strconv"
	"testing"
)

// usableEnds has a subnet of each Bits and its first and last usable address.
func usableEnds() [][3]string {
	return [][3]string{
		{"10.0.4.0/22", "10.0.4.1", "10.0.7.254"}, {"10.0.4.0/23", "10.0.4.1", "10.0.5.254"}, {"10.0.4.0/24", "10.0.4.1", "10.0.4.254"}, {"10.0.4.128/25", "10.0.4.129", "10.0.4.254"},
		{"10.0.4.192/26", "10.0.4.193", "10.0.4.254"}, {"10.0.4.32/27", "10.0.4.33", "10.0.4.62"}, {"10.0.4.16/28", "10.0.4.17", "10.0.4.30"}, {"10.0.4.8/29", "10.0.4.9", "10.0.4.14"},
		{"10.0.4.4/30", "10.0.4.5", "10.0.4.6"}, {"10.0.4.2/31", "10.0.4.2", "10.0.4.3"}, {"10.0.4.1/32", "10.0.4.1", "10.0.4.1"},
		{"10.255.255.252/30", "10.255.255.253", "10.255.255.254"}, {"10.255.255.254/31", "10.255.255.254", "10.255.255.255"}, {"10.255.255.255/32", "10.255.255.255", "10.255.255.255"},
		{"10.0.0.0/30", "10.0.0.1", "10.0.0.2"}, {"10.0.0.0/31", "10.0.0.0", "10.0.0.1"}, {"10.0.0.0/32", "10.0.0.0", "10.0.0.0"},
	}
}

func TestUsableEnds(t *testing.T) {
	for _, c := range usableEnds() {
		x := begin(t)
		play(t, x, "POOL a ann 10.0.0.0/8 -> OK", "BLOCK b ann "+c[0]+" -> OK", "TAKE c ann "+c[2]+" -> OK", "GIVE d ann "+c[2]+" -> OK", "LEASE e ann "+c[0]+" -> OK "+c[1], "GIVE f ann "+c[1]+" -> OK", "TAKE g ann "+c[1]+" -> OK")
	}
}

func TestFirstAndLastAreNotUsable(t *testing.T) {
	play(t, begin(t),
		"POOL a ann 10.0.0.0/8 -> OK", "BLOCK b ann 10.0.0.0/30 -> OK", "BLOCK c ann 10.0.4.0/22 -> OK",
		"TAKE d ann 10.0.0.0 -> ERR ADDR", "TAKE d ann 10.0.0.3 -> ERR ADDR", "TAKE d ann 10.0.4.0 -> ERR ADDR", "TAKE d ann 10.0.7.255 -> ERR ADDR",
		"TAKE d ann 10.0.0.4 -> ERR NET", "TAKE d ann 10.0.3.255 -> ERR NET", "TAKE d ann 10.0.8.0 -> ERR NET")
}

// leaseAll leases all of a subnet, one address behind the other; then it is full.
func leaseAll(t *testing.T, pool, net string, addresses ...string) {
	t.Helper()
	x := begin(t)
	play(t, x, "POOL a ann "+pool+" -> OK", "BLOCK b ann "+net+" -> OK")
	used := "OK"
	for i, a := range addresses {
		play(t, x, "LEASE l"+strconv.Itoa(i)+" cy "+net+" -> OK "+a)
		used += " " + a + "=cy"
	}
	play(t, x, "LEASE z cy "+net+" -> ERR FULL", "USED "+net+" -> "+used)
	for i, a := range addresses {
		play(t, x, "GIVE g"+strconv.Itoa(i)+" cy "+a+" -> OK", "LEASE h"+strconv.Itoa(i)+" cy "+net+" -> OK "+a, "LEASE z cy "+net+" -> ERR FULL")
	}
}

func TestSmallSubnetsGetFull(t *testing.T) {
	leaseAll(t, "10.0.0.0/24", "10.0.0.0/32", "10.0.0.0")
	leaseAll(t, "10.0.0.0/24", "10.0.0.0/31", "10.0.0.0", "10.0.0.1")
	leaseAll(t, "10.0.0.0/24", "10.0.0.0/30", "10.0.0.1", "10.0.0.2")
	leaseAll(t, "10.0.0.0/24", "10.0.0.8/29", "10.0.0.9", "10.0.0.10", "10.0.0.11", "10.0.0.12", "10.0.0.13", "10.0.0.14")
	leaseAll(t, "0.0.0.0/8", "0.0.0.0/32", "0.0.0.0")
	leaseAll(t, "0.0.0.0/8", "0.0.0.0/31", "0.0.0.0", "0.0.0.1")
	leaseAll(t, "0.0.0.0/8", "0.0.0.0/30", "0.0.0.1", "0.0.0.2")
	leaseAll(t, "255.0.0.0/8", "255.255.255.255/32", "255.255.255.255")
	leaseAll(t, "255.0.0.0/8", "255.255.255.254/31", "255.255.255.254", "255.255.255.255")
	leaseAll(t, "255.255.255.252/30", "255.255.255.252/30", "255.255.255.253", "255.255.255.254")
}

func TestLeastAddressIsLeased(t *testing.T) {
	play(t, begin(t),
		"POOL a ann 10.0.0.0/24 -> OK", "BLOCK b ann 10.0.0.16/28 -> OK",
		"TAKE c cy 10.0.0.18 -> OK", "LEASE d cy 10.0.0.16/28 -> OK 10.0.0.17", "LEASE e bob 10.0.0.16/28 -> OK 10.0.0.19", "TAKE f cy 10.0.0.30 -> OK", "LEASE g bob 10.0.0.16/28 -> OK 10.0.0.20",
		"GIVE h cy 10.0.0.18 -> OK", "GIVE i cy 10.0.0.17 -> OK", "LEASE j dan 10.0.0.16/28 -> OK 10.0.0.17", "LEASE k dan 10.0.0.16/28 -> OK 10.0.0.18", "LEASE l dan 10.0.0.16/28 -> OK 10.0.0.21",
		"USED 10.0.0.16/28 -> OK 10.0.0.17=dan 10.0.0.18=dan 10.0.0.19=bob 10.0.0.20=bob 10.0.0.21=dan 10.0.0.30=cy")
}

// forty leases 40 addresses of 10.0.0.0/24; beside it are subnets with one address and with two usable ones.
func forty(t *testing.T) *Book {
	t.Helper()
	x := begin(t)
	play(t, x, "POOL a ann 10.0.0.0/16 -> OK", "BLOCK b ann 10.0.0.0/24 -> OK", "BLOCK c ann 10.0.1.0/32 -> OK", "BLOCK d ann 10.0.1.4/30 -> OK", "LEASE e ann 10.0.1.0/32 -> OK 10.0.1.0")
	for i := range 39 {
		play(t, x, "LEASE l"+strconv.Itoa(i)+" ann 10.0.0.0/24 -> OK 10.0.0."+strconv.Itoa(i+1))
	}
	return x
}

func TestLeaseRefusalsInTheirOrder(t *testing.T) {
	play(t, forty(t),
		"LEASE z ann 10.0.0.0/16 -> ERR NET", "LEASE z ann 10.0.0.0/23 -> ERR NET", "LEASE z ann 10.0.0.0/25 -> ERR NET", "LEASE z ann 10.0.0.1/32 -> ERR NET", "LEASE z ann 10.0.2.0/24 -> ERR NET",
		"LEASE z ann 10.0.1.0/32 -> ERR FULL", "LEASE z ann 10.0.0.0/24 -> ERR LIMIT", "LEASE z ann 10.0.1.4/30 -> ERR LIMIT",
		"GIVE y ann 10.0.0.20 -> OK", "LEASE z bob 10.0.1.4/30 -> OK 10.0.1.5", "LEASE x bob 10.0.0.0/24 -> ERR LIMIT", "GIVE w bob 10.0.1.5 -> OK", "LEASE x bob 10.0.0.0/24 -> OK 10.0.0.20")
}

func TestTakeRefusalsInTheirOrder(t *testing.T) {
	play(t, forty(t),
		"TAKE z ann 10.0.2.0 -> ERR NET", "TAKE z ann 10.0.1.1 -> ERR NET", "TAKE z ann 99.0.0.0 -> ERR NET",
		"TAKE z ann 10.0.0.0 -> ERR ADDR", "TAKE z ann 10.0.0.255 -> ERR ADDR", "TAKE z ann 10.0.1.4 -> ERR ADDR", "TAKE z ann 10.0.1.7 -> ERR ADDR",
		"TAKE z ann 10.0.0.39 -> ERR TAKEN", "TAKE z bob 10.0.1.0 -> ERR TAKEN",
		"TAKE z ann 10.0.0.40 -> ERR LIMIT", "TAKE z ann 10.0.1.6 -> ERR LIMIT",
		"GIVE y ann 10.0.1.0 -> OK", "TAKE z bob 10.0.1.6 -> OK", "TAKE x bob 10.0.1.0 -> ERR LIMIT", "USED 10.0.1.4/30 -> OK 10.0.1.6=bob", "USED 10.0.1.0/32 -> OK")
}

func TestGiveRefusalsInTheirOrder(t *testing.T) {
	play(t, begin(t),
		"GIVE a ann 10.0.0.1 -> ERR ADDR",
		"POOL a ann 10.0.0.0/24 -> OK", "BLOCK b bob 10.0.0.0/24 -> OK", "TAKE c cy 10.0.0.1 -> OK",
		"GIVE d cy 10.0.0.0 -> ERR ADDR", "GIVE d cy 10.0.0.2 -> ERR ADDR", "GIVE d cy 99.0.0.1 -> ERR ADDR",
		"GIVE d ann 10.0.0.1 -> ERR OWNER", "GIVE d bob 10.0.0.1 -> ERR OWNER", "GIVE d c 10.0.0.1 -> ERR OWNER",
		"GIVE d cy 10.0.0.1 -> OK", "GIVE e cy 10.0.0.1 -> ERR ADDR", "TAKE f bob 10.0.0.1 -> OK", "GIVE g cy 10.0.0.1 -> ERR OWNER", "USED 10.0.0.0/24 -> OK 10.0.0.1=bob")
}

func TestUsedIsOfTheSubnet(t *testing.T) {
	play(t, begin(t),
		"POOL a ann 10.0.0.0/24 -> OK", "BLOCK b ann 10.0.0.0/28 -> OK", "BLOCK c ann 10.0.0.16/28 -> OK", "USED 10.0.0.0/28 -> OK",
		"TAKE d z 10.0.0.10 -> OK", "TAKE e y 10.0.0.9 -> OK", "TAKE f x 10.0.0.17 -> OK", "TAKE g w 10.0.0.2 -> OK",
		"USED 10.0.0.0/28 -> OK 10.0.0.2=w 10.0.0.9=y 10.0.0.10=z", "USED 10.0.0.16/28 -> OK 10.0.0.17=x",
		"USED 10.0.0.0/27 -> ERR NET", "USED 10.0.0.0/24 -> ERR NET", "USED 10.0.0.0/29 -> ERR NET", "USED 10.0.0.32/28 -> ERR NET", "USED 0.0.0.0/0 -> ERR NET")
}

// All of the greatest book is told.
func TestUsedTellsForty(t *testing.T) {
	want := "OK"
	for i := range 39 {
		want += " 10.0.0." + strconv.Itoa(i+1) + "=ann"
	}
	play(t, forty(t), "USED 10.0.0.0/24 -> "+want)
}
