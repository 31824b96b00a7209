package book

import (
	"slices"

	"acre/answers"
	"acre/api"
	"acre/blocks"
	"acre/lines"
)

// mostEnded is how many Bits a subnet has at most whose first and last address are not usable.
const mostEnded = 30

// subnet is a block whose addresses are leased.
type subnet struct {
	holding
}

// usable tells the first and the last usable address; all between them are usable too.
func (n subnet) usable() (uint32, uint32) {
	first, last := n.base(), blocks.Last(n.block)
	if n.block.Bits <= mostEnded {
		return first + 1, last - 1
	}
	return first, last
}

// carve does the line NET.
func (x *Book) carve(l lines.Line) answers.Answer {
	at := find(x.pools, l.Block)
	if at < 0 {
		return answers.Refuse(answers.Pool)
	}
	if l.Length < api.LeastNet || l.Length < l.Block.Bits {
		return answers.Refuse(answers.Range)
	}
	room, found := bestFit(freeBlocks(l.Block, x.subnetsOf(x.pools[at])), l.Length)
	if !found {
		return answers.Refuse(answers.Full)
	}
	if len(x.subnets) >= api.MaxNets {
		return answers.Refuse(answers.Limit)
	}
	b := api.Block{Base: room.Base, Bits: l.Length}
	x.addSubnet(b, l.Owner)
	return answers.OK(blockText(b))
}

// carveJust does the line BLOCK.
func (x *Book) carveJust(l lines.Line) answers.Answer {
	switch {
	case l.Block.Bits < api.LeastNet:
		return answers.Refuse(answers.Range)
	case findSpanning(x.pools, l.Block) < 0:
		return answers.Refuse(answers.Pool)
	case anyMeets(x.subnets, l.Block):
		return answers.Refuse(answers.Overlap)
	case len(x.subnets) >= api.MaxNets:
		return answers.Refuse(answers.Limit)
	}
	x.addSubnet(l.Block, l.Owner)
	return answers.OK()
}

func (x *Book) addSubnet(b api.Block, owner string) {
	x.subnets = insert(x.subnets, subnet{holding{b, owner}})
}

// free does the line FREE.
func (x *Book) free(l lines.Line) answers.Answer {
	at := find(x.subnets, l.Block)
	switch {
	case at < 0:
		return answers.Refuse(answers.Net)
	case !x.subnets[at].ownedBy(l.Owner):
		return answers.Refuse(answers.Owner)
	case len(x.leasesOf(x.subnets[at])) > 0:
		return answers.Refuse(answers.Busy)
	}
	x.subnets = slices.Delete(x.subnets, at, at+1)
	return answers.OK()
}

// tellLeases answers the line USED.
func (x *Book) tellLeases(l lines.Line) answers.Answer {
	at := find(x.subnets, l.Block)
	if at < 0 {
		return answers.Refuse(answers.Net)
	}
	return tell(x.leasesOf(x.subnets[at]))
}

// leasesOf tells the leases of a subnet, by rising addresses.
func (x *Book) leasesOf(n subnet) []lease {
	var out []lease
	for _, l := range x.leases {
		if n.spans(blocks.Single(l.address)) {
			out = append(out, l)
		}
	}
	return out
}
