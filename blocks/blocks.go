// Package blocks: blocks of addresses, how they are written and how they lie to one another.
package blocks

import "acre/api"

// WholeBits is how many Bits a block of one address has.
const WholeBits = 32

// mask has ones where a block of so many Bits has its own bits.
func mask(bits int) uint32 {
	return ^uint32(0) << (WholeBits - bits)
}

// Right tells whether a block is right.
func Right(b api.Block) bool {
	// The Bits are asked first: mask would shift by less than nothing at Bits above 32.
	return b.Bits >= 0 && b.Bits <= WholeBits && b.Base&^mask(b.Bits) == 0
}

// Parent tells the block of one Bit less that a block is in.
func Parent(b api.Block) (api.Block, api.Errno) {
	if !Right(b) || b.Bits == 0 {
		return api.Block{}, api.ErrBlock
	}
	bits := b.Bits - 1
	return api.Block{Base: b.Base & mask(bits), Bits: bits}, api.OK
}

// Buddy tells the other block with the same parent.
func Buddy(b api.Block) (api.Block, api.Errno) {
	if !Right(b) || b.Bits == 0 {
		return api.Block{}, api.ErrBlock
	}
	return api.Block{Base: b.Base ^ lastBit(b.Bits), Bits: b.Bits}, api.OK
}

// Halves tells the two blocks whose parent a block is, the lower one first.
func Halves(b api.Block) (api.Block, api.Block, api.Errno) {
	if !Right(b) || b.Bits == WholeBits {
		return api.Block{}, api.Block{}, api.ErrBlock
	}
	bits := b.Bits + 1
	low := api.Block{Base: b.Base, Bits: bits}
	high := api.Block{Base: b.Base | lastBit(bits), Bits: bits}
	return low, high, api.OK
}

// lastBit is the one bit of the Base that tells a block of so many Bits (not 0) from its buddy.
func lastBit(bits int) uint32 {
	return 1 << (WholeBits - bits)
}

// Meet tells whether an address is in both blocks; false, if one of them is not right.
func Meet(a api.Block, b api.Block) bool {
	if !Right(a) || !Right(b) {
		return false
	}
	// Blocks that meet lie one in the other: the bits of the larger one decide.
	return (a.Base^b.Base)&mask(min(a.Bits, b.Bits)) == 0
}

// In tells whether all addresses of the one block are in the other; false, if one of them is not right.
func In(inner api.Block, outer api.Block) bool {
	return inner.Bits >= outer.Bits && Meet(inner, outer)
}

// Single tells the block of just one address.
func Single(address uint32) api.Block {
	return api.Block{Base: address, Bits: WholeBits}
}

// Last tells the last address of a right block.
func Last(b api.Block) uint32 {
	return b.Base | ^mask(b.Bits)
}
