package acre

import (
	"strconv"
	"testing"
)

func TestPoolRange(t *testing.T) {
	for bits := 0; bits <= 32; bits++ {
		want := "OK"
		if bits < 8 || bits > 30 {
			want = "ERR RANGE"
		}
		play(t, begin(t), "POOL a ann 0.0.0.0/"+strconv.Itoa(bits)+" -> "+want)
	}
	play(t, begin(t), "POOL a ann 255.0.0.0/8 -> OK", "POOL b ann 254.255.255.252/30 -> OK", "POOLS -> OK 254.255.255.252/30=ann 255.0.0.0/8=ann")
}

func TestPoolRefusalsInTheirOrder(t *testing.T) {
	x := begin(t)
	play(t, x,
		"POOL a ann 10.0.0.0/8 -> OK",
		"POOL b ann 10.0.0.0/7 -> ERR RANGE", "POOL b ann 10.0.0.0/31 -> ERR RANGE",
		"POOL b bob 10.0.0.0/8 -> ERR OVERLAP", "POOL b bob 10.255.255.252/30 -> ERR OVERLAP",
		"POOL b bob 20.1.0.0/16 -> OK", "POOL c bob 20.0.0.0/8 -> ERR OVERLAP",
		"POOL c bob 11.0.0.0/8 -> OK", "POOL d bob 9.255.255.252/30 -> OK", "POOL e bob 12.0.0.0/8 -> OK", "POOL f bob 0.0.0.0/8 -> OK",
		"POOL g bob 13.0.0.0/8 -> ERR LIMIT", "POOL g bob 12.0.0.0/9 -> ERR OVERLAP", "POOL g bob 12.0.0.0/6 -> ERR RANGE",
		"DROP h ann 10.0.0.0/8 -> OK", "POOL g bob 13.0.0.0/8 -> OK", "POOL i ann 10.0.0.0/8 -> ERR LIMIT",
		"POOLS -> OK 0.0.0.0/8=bob 9.255.255.252/30=bob 11.0.0.0/8=bob 12.0.0.0/8=bob 13.0.0.0/8=bob 20.1.0.0/16=bob")
}

func TestDropRefusalsInTheirOrder(t *testing.T) {
	play(t, begin(t),
		"DROP a ann 10.0.0.0/16 -> ERR POOL",
		"POOL a ann 10.0.0.0/16 -> OK", "BLOCK b ann 10.0.255.255/32 -> OK",
		"DROP c bob 10.0.0.0/17 -> ERR POOL", "DROP c bob 10.0.0.0/15 -> ERR POOL", "DROP c bob 10.1.0.0/16 -> ERR POOL", "DROP c ann 10.0.255.255/32 -> ERR POOL", "DROP c ann 0.0.0.0/0 -> ERR POOL",
		"DROP c bob 10.0.0.0/16 -> ERR OWNER", "DROP c an 10.0.0.0/16 -> ERR OWNER", "DROP c ann 10.0.0.0/16 -> ERR BUSY",
		"POOL p ann 10.1.0.0/16 -> OK", "DROP q ann 10.1.0.0/16 -> OK", // another pool's subnet does not matter
		"FREE d ann 10.0.255.255/32 -> OK", "DROP c ann 10.0.0.0/16 -> OK", "DROP e ann 10.0.0.0/16 -> ERR POOL", "POOLS -> OK",
		"POOL f bob 10.0.0.0/15 -> OK", "POOLS -> OK 10.0.0.0/15=bob")
}

func TestPoolsAreToldByRisingBases(t *testing.T) {
	play(t, begin(t),
		"POOLS -> OK",
		"POOL a d 200.0.0.0/8 -> OK", "POOL b c 9.0.0.0/8 -> OK", "POOL c b 128.0.0.0/30 -> OK", "POOL d a 127.0.0.0/8 -> OK", "POOL e e 10.0.0.0/8 -> OK",
		"POOLS -> OK 9.0.0.0/8=c 10.0.0.0/8=e 127.0.0.0/8=a 128.0.0.0/30=b 200.0.0.0/8=d")
}
