// Package acre: addresses that are handed out: see DOC.md.
package acre

import (
	"acre/api"
	"acre/blocks"
	"acre/disk"
)

// Book has pools, subnets and leases.
type Book struct{}

// Read reads a block (P3).
func Read(s string) (api.Block, api.Errno) { return blocks.Read(s) }

// Write writes a block (P3).
func Write(b api.Block) (string, api.Errno) { return blocks.Write(b) }

// Parent tells a block's parent (P4).
func Parent(b api.Block) (api.Block, api.Errno) { return blocks.Parent(b) }

// Buddy tells a block's buddy (P4).
func Buddy(b api.Block) (api.Block, api.Errno) { return blocks.Buddy(b) }

// Halves tells a block's halves (P4).
func Halves(b api.Block) (api.Block, api.Block, api.Errno) { return blocks.Halves(b) }

// Meet tells whether two blocks meet (P4).
func Meet(a api.Block, b api.Block) bool { return blocks.Meet(a, b) }

// Open makes a book of what is on a disk (P5, P11).
func Open(d *disk.Disk) (*Book, api.Errno) { return nil, api.OK }

// Do does a line, and answers it (P5 to P10).
func (x *Book) Do(line string) string { return "" }
