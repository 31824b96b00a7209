package book

import (
	"cmp"
	"slices"

	"acre/answers"
	"acre/api"
	"acre/blocks"
	"acre/lines"
)

// lease is an address of a subnet that is handed out.
type lease struct {
	address uint32
	owner   string
}

func (l lease) text() string { return told(blocks.WriteAddress(l.address), l.owner) }

// command tells the command that makes it.
func (l lease) command() string {
	return lines.Write(lines.Take, anyToken, l.owner, blocks.WriteAddress(l.address))
}

// findLease tells where the lease of an address is or would be, and whether it is there.
func (x *Book) findLease(address uint32) (int, bool) {
	return slices.BinarySearchFunc(x.leases, address, func(l lease, a uint32) int {
		return cmp.Compare(l.address, a)
	})
}

// lease does the line LEASE.
func (x *Book) lease(l lines.Line) answers.Answer {
	at := find(x.subnets, l.Block)
	if at < 0 {
		return answers.Refuse(answers.Net)
	}
	address, found := x.leastFree(x.subnets[at])
	if !found {
		return answers.Refuse(answers.Full)
	}
	if len(x.leases) >= api.MaxLeases {
		return answers.Refuse(answers.Limit)
	}
	x.addLease(address, l.Owner)
	return answers.OK(blocks.WriteAddress(address))
}

// leastFree tells the least usable address that is not leased; false, if there is none.
func (x *Book) leastFree(n subnet) (uint32, bool) {
	least, last := n.usable()
	for _, l := range x.leasesOf(n) {
		// They rise: the first one that is not the least address leaves that free.
		if l.address != least {
			return least, true
		}
		// Behind the last address there is none, and behind the last of all the number would wrap round.
		if least == last {
			return 0, false
		}
		least++
	}
	return least, true
}

// take does the line TAKE.
func (x *Book) take(l lines.Line) answers.Answer {
	at := findSpanning(x.subnets, blocks.Single(l.Address))
	if at < 0 {
		return answers.Refuse(answers.Net)
	}
	first, last := x.subnets[at].usable()
	if l.Address < first || l.Address > last {
		return answers.Refuse(answers.Addr)
	}
	if _, found := x.findLease(l.Address); found {
		return answers.Refuse(answers.Taken)
	}
	if len(x.leases) >= api.MaxLeases {
		return answers.Refuse(answers.Limit)
	}
	x.addLease(l.Address, l.Owner)
	return answers.OK()
}

func (x *Book) addLease(address uint32, owner string) {
	at, _ := x.findLease(address)
	x.leases = slices.Insert(x.leases, at, lease{address, owner})
}

// give does the line GIVE.
func (x *Book) give(l lines.Line) answers.Answer {
	at, found := x.findLease(l.Address)
	if !found {
		return answers.Refuse(answers.Addr)
	}
	if x.leases[at].owner != l.Owner {
		return answers.Refuse(answers.Owner)
	}
	x.leases = slices.Delete(x.leases, at, at+1)
	return answers.OK()
}
