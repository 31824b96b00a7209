package book

import (
	"slices"

	"acre/answers"
	"acre/api"
	"acre/blocks"
	"acre/lines"
)

// pool is a block that subnets are carved out of.
type pool struct {
	holding
}

// makePool does the line POOL.
func (x *Book) makePool(l lines.Line) answers.Answer {
	switch {
	case l.Block.Bits < api.LeastPool || l.Block.Bits > api.MostPool:
		return answers.Refuse(answers.Range)
	case anyMeets(x.pools, l.Block):
		return answers.Refuse(answers.Overlap)
	case len(x.pools) >= api.MaxPools:
		return answers.Refuse(answers.Limit)
	}
	x.pools = insert(x.pools, pool{holding{l.Block, l.Owner}})
	return answers.OK()
}

// dropPool does the line DROP.
func (x *Book) dropPool(l lines.Line) answers.Answer {
	at := find(x.pools, l.Block)
	switch {
	case at < 0:
		return answers.Refuse(answers.Pool)
	case !x.pools[at].ownedBy(l.Owner):
		return answers.Refuse(answers.Owner)
	case len(x.subnetsOf(x.pools[at])) > 0:
		return answers.Refuse(answers.Busy)
	}
	x.pools = slices.Delete(x.pools, at, at+1)
	return answers.OK()
}

// tellSubnets answers the line NETS.
func (x *Book) tellSubnets(l lines.Line) answers.Answer {
	at := find(x.pools, l.Block)
	if at < 0 {
		return answers.Refuse(answers.Pool)
	}
	return tell(x.subnetsOf(x.pools[at]))
}

// subnetsOf tells the subnets of a pool, by rising Bases.
func (x *Book) subnetsOf(p pool) []subnet {
	var out []subnet
	for _, n := range x.subnets {
		if p.spans(n.block) {
			out = append(out, n)
		}
	}
	return out
}

// freeBlocks tells the largest blocks in a block that meet no subnet, by rising Bases.
func freeBlocks(b api.Block, subnets []subnet) []api.Block {
	if !anyMeets(subnets, b) {
		return []api.Block{b}
	}
	if findSpanning(subnets, b) >= 0 {
		return nil
	}
	// A block that meets a subnet and is not in it is larger than that: it has halves.
	low, high, _ := blocks.Halves(b)
	return append(freeBlocks(low, subnets), freeBlocks(high, subnets)...)
}

// bestFit tells which free block one of so many Bits is carved out of; false, if there is none.
func bestFit(free []api.Block, bits int) (api.Block, bool) {
	var best api.Block
	found := false
	for _, b := range free {
		// They come by rising Bases: of equally large ones the first stays.
		if b.Bits <= bits && (!found || b.Bits > best.Bits) {
			best, found = b, true
		}
	}
	return best, found
}
