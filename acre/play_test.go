package acre

import (
	"strings"
	"testing"

	"acre/api"
	"acre/disk"
)

// begin opens a book on a disk that nobody wrote on.
func begin(t testing.TB) *Book {
	t.Helper()
	x, e := Open(disk.New())
	if x == nil || e != api.OK {
		t.Fatalf("P5: Open of a new disk: %v, %d", x, e)
	}
	return x
}

// play does lines, each written with ` -> ` and the answer that is wanted behind it.
func play(t testing.TB, x *Book, script ...string) {
	t.Helper()
	for _, s := range script {
		line, want, found := strings.Cut(s, " -> ")
		if !found {
			t.Fatalf("no answer is wanted of %q", s)
		}
		if a := x.Do(line); a != want {
			t.Fatalf("Do(%q) = %q, want %q", line, a, want)
		}
	}
}

// whole tells all that a book answers to questions.
func whole(x *Book) string {
	pools := x.Do("POOLS")
	out := []string{pools}
	for _, p := range toldBlocks(pools) {
		nets := x.Do("NETS " + p)
		out = append(out, nets)
		for _, n := range toldBlocks(nets) {
			out = append(out, x.Do("USED "+n))
		}
	}
	return strings.Join(out, "\n")
}

// toldBlocks tells what stands ahead of the owners in the answer to a question.
func toldBlocks(answer string) []string {
	var out []string
	for _, w := range strings.Fields(answer)[1:] {
		what, _, _ := strings.Cut(w, "=")
		out = append(out, what)
	}
	return out
}
