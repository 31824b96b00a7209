// Package store: a text on a disk that a crash leaves whole, the old one or the new one.
package store

import (
	"slices"
	"strings"

	"acre/disk"
)

// mark is the sector that tells in its first byte which of the two areas has the text.
// No two marks differ in another byte: however far a crash let one be written, it is one of them.
const mark = 0

// end stands behind a text; no text has it in it.
const end = "\x00"

// Store is a disk with one text. On a disk that nobody wrote on, that is the empty one.
type Store struct {
	disk *disk.Disk
}

// On tells the store of a disk.
func On(d *disk.Disk) Store { return Store{disk: d} }

// Text tells the text.
func (s Store) Text() string {
	var out strings.Builder
	area := s.area()
	// This ends: what is no sector is noughts.
	for i := 0; ; i++ {
		text, _, ended := strings.Cut(s.disk.Read(sector(area, i)), end)
		out.WriteString(text)
		if ended {
			return out.String()
		}
	}
}

// Put lays a text down in the place of the old one; false, if it is not safe.
func (s Store) Put(text string) bool {
	next := 1 - s.area()
	// The mark goes over only when the whole text is safe: until then a crash leaves the old one.
	if !s.write(next, text+end) || !s.disk.Sync() {
		return false
	}
	return s.disk.Write(mark, string([]byte{byte(next)})) && s.disk.Sync()
}

// area tells which of the two areas has the text: 0 or 1.
func (s Store) area() int { return int(s.disk.Read(mark)[0] & 1) }

// sector tells the i-th sector of an area.
// The areas lie by turns: a text that is too long runs off the disk, where it is refused, and not into the other area.
func sector(area, i int) int { return mark + 1 + 2*i + area }

// write writes a text into an area; false, if the disk refuses a part of it.
func (s Store) write(area int, text string) bool {
	i := 0
	for piece := range slices.Chunk([]byte(text), disk.Size) {
		if !s.disk.Write(sector(area, i), string(piece)) {
			return false
		}
		i++
	}
	return true
}
