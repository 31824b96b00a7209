package acre

import (
	"strings"
	"testing"

	"acre/api"
	"acre/disk"
)

// begin opens a book on a disk that nobody wrote on.
func begin(t testing.TB) *Book {
	t.Helper()
	return reopen(t, disk.New())
}

// reopen opens a book on a disk that is not stopped.
func reopen(t testing.TB, d *disk.Disk) *Book {
	t.Helper()
	x, e := Open(d)
	if x == nil || e != api.OK {
		t.Fatalf("P5, P11: Open: %v, %d", x, e)
	}
	return x
}

// play does lines, each written with ` -> ` and the answer that is wanted behind it.
func play(t testing.TB, x *Book, script ...string) {
	t.Helper()
	for _, s := range script {
		line, want, found := strings.Cut(s, " -> ")
		if !found {
			t.Fatalf("no answer is wanted of %q", s)
		}
		if a := x.Do(line); a != want {
			t.Fatalf("Do(%q) = %q, want %q", line, a, want)
		}
	}
}

// whole tells all that a book answers to questions.
func whole(x *Book) string { return wholeOf(x.Do) }

func wholeOf(do func(string) string) string {
	pools := do("POOLS")
	out := []string{pools}
	for _, p := range toldBlocks(pools) {
		nets := do("NETS " + p)
		out = append(out, nets)
		for _, n := range toldBlocks(nets) {
			out = append(out, do("USED "+n))
		}
	}
	return strings.Join(out, "\n")
}

// toldBlocks tells what stands ahead of the owners in the answer to a question.
func toldBlocks(answer string) []string {
	var out []string
	if !strings.HasPrefix(answer, "OK") {
		return nil
	}
	for _, w := range strings.Fields(answer)[1:] {
		what, _, _ := strings.Cut(w, "=")
		out = append(out, what)
	}
	return out
}
