// Package book: the pools, subnets and leases, and what the lines do to them.
package book

import (
	"acre/answers"
	"acre/lines"
)

// Book has the pools and subnets by rising Bases, and the leases by rising addresses.
type Book struct {
	pools   []pool
	subnets []subnet
	leases  []lease
}

// Do does a command or answers a question.
func (x *Book) Do(l lines.Line) answers.Answer {
	switch l.Verb {
	case lines.Pool:
		return x.makePool(l)
	case lines.Drop:
		return x.dropPool(l)
	case lines.Net:
		return x.carve(l)
	case lines.Block:
		return x.carveJust(l)
	case lines.Free:
		return x.free(l)
	case lines.Lease:
		return x.lease(l)
	case lines.Take:
		return x.take(l)
	case lines.Give:
		return x.give(l)
	case lines.Pools:
		return tell(x.pools)
	case lines.Nets:
		return x.tellSubnets(l)
	case lines.Used:
		return x.tellLeases(l)
	}
	return answers.Refuse(answers.Line)
}

// Commands tells the commands that make an empty book as this one is.
func (x *Book) Commands() []string {
	var out []string
	// In this order: each finds there what it is carved out of or leased from.
	for _, p := range x.pools {
		out = append(out, p.command(lines.Pool))
	}
	for _, n := range x.subnets {
		out = append(out, n.command(lines.Block))
	}
	for _, l := range x.leases {
		out = append(out, l.command())
	}
	return out
}
