package lines

// Verb is the first word of a line.
type Verb int

// The verbs: the commands first, the questions behind them.
const (
	Pool Verb = iota
	Drop
	Net
	Block
	Free
	Lease
	Take
	Give
	Pools
	Nets
	Used
)

// part is what a word behind the verb has to be.
type part int

const (
	nothing part = iota
	token
	owner
	block
	address
	length
)

// mostParts is how many words there are behind a verb at most.
const mostParts = 4

// form is how the lines of a verb are written.
type form struct {
	word  string
	parts [mostParts]part
}

var forms = [...]form{
	Pool:  {"POOL", [mostParts]part{token, owner, block}},
	Drop:  {"DROP", [mostParts]part{token, owner, block}},
	Net:   {"NET", [mostParts]part{token, owner, block, length}},
	Block: {"BLOCK", [mostParts]part{token, owner, block}},
	Free:  {"FREE", [mostParts]part{token, owner, block}},
	Lease: {"LEASE", [mostParts]part{token, owner, block}},
	Take:  {"TAKE", [mostParts]part{token, owner, address}},
	Give:  {"GIVE", [mostParts]part{token, owner, address}},
	Pools: {"POOLS", [mostParts]part{}},
	Nets:  {"NETS", [mostParts]part{block}},
	Used:  {"USED", [mostParts]part{block}},
}

// readVerb reads a verb; false, if the word is none.
func readVerb(word string) (Verb, bool) {
	for v, f := range forms {
		if f.word == word {
			return Verb(v), true
		}
	}
	return 0, false
}

// IsCommand tells whether lines of the verb are commands; the others are questions.
func (v Verb) IsCommand() bool { return v <= Give }
