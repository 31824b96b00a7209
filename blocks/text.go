package blocks

import (
	"strconv"
	"strings"

	"acre/api"
)

const (
	addressParts = 4   // numbers an address is written as
	mostPart     = 255 // the greatest of them
	partBits     = 8
)

// Read reads a right block.
func Read(s string) (api.Block, api.Errno) {
	baseText, bitsText, found := strings.Cut(s, "/")
	base, baseRight := ReadAddress(baseText)
	bits, bitsRight := ReadBits(bitsText)
	b := api.Block{Base: base, Bits: bits}
	if !found || !baseRight || !bitsRight || !Right(b) {
		return api.Block{}, api.ErrText
	}
	return b, api.OK
}

// Write tells how a right block is written.
func Write(b api.Block) (string, api.Errno) {
	if !Right(b) {
		return "", api.ErrBlock
	}
	return WriteAddress(b.Base) + "/" + strconv.Itoa(b.Bits), api.OK
}

// ReadBits reads a number of Bits, from 0 to 32; false, if the text is not just one.
func ReadBits(text string) (int, bool) {
	return readNumber(text, WholeBits)
}

// ReadAddress reads an address; false, if the text is not just one.
func ReadAddress(text string) (uint32, bool) {
	// One part too many is enough to see that there are too many, however long the text is.
	parts := strings.SplitN(text, ".", addressParts+1)
	if len(parts) != addressParts {
		return 0, false
	}
	address := uint32(0)
	for _, part := range parts {
		n, right := readNumber(part, mostPart)
		if !right {
			return 0, false
		}
		address = address<<partBits | uint32(n)
	}
	return address, true
}

// WriteAddress tells how an address is written.
func WriteAddress(address uint32) string {
	var parts [addressParts]string
	for i := range parts {
		// The last part has the lowest byte.
		parts[addressParts-1-i] = strconv.Itoa(int(address >> (partBits * i) & mostPart))
	}
	return strings.Join(parts[:], ".")
}

// readNumber reads a number from 0 to most; false, if the text is not just one.
func readNumber(text string, most int) (int, bool) {
	n, err := strconv.Atoi(text)
	if err != nil || n < 0 || n > most {
		return 0, false
	}
	// Atoi takes signs and noughts ahead as well: writing the number again shows them.
	if strconv.Itoa(n) != text {
		return 0, false
	}
	return n, true
}
