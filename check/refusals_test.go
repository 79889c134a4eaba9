package check

import (
	"math/rand"
	"strings"
	"testing"

	"comb/api"
	"comb/comb"
	"comb/fold"
	"comb/gram"
	"comb/look"
	"comb/pack"
	"comb/plain"
	"comb/state"
	"comb/tabs"
)

// call is a face that is handed a grammar's text: it tells whether there is an answer beside the error, and the error with its place.
type call struct {
	name string
	of   func(text string) (bool, api.Errno, int)
}

// clashes tells whether a cell of a grammar clashes. That is an error from pack.Make on, and no error here.
func clashes(text string) bool {
	_, _, found, _, _, _ := tabs.Make(text)
	return found != nil
}

// calls tells the faces from chapter 2 on; each has all errors of those ahead of it.
func calls() []call {
	return []call{
		{"plain.Make", func(text string) (bool, api.Errno, int) {
			made, errno, at := plain.Make(text)
			return made.Tokens != nil || made.Names != nil || made.Prods != nil || made.Binds != nil || made.Kinds != nil, errno, at
		}},
		{"plain.Sets", func(text string) (bool, api.Errno, int) {
			empty, first, errno, at := plain.Sets(text)
			return empty != nil || first != nil, errno, at
		}},
		{"state.States", func(text string) (bool, api.Errno, int) {
			kernels, edges, errno, at := state.States(text)
			return kernels != nil || edges != nil, errno, at
		}},
		{"look.Look", func(text string) (bool, api.Errno, int) {
			aheads, errno, at := look.Look(text)
			return aheads != nil, errno, at
		}},
		{"tabs.Make", func(text string) (bool, api.Errno, int) {
			cells, gotos, clashes, settled, errno, at := tabs.Make(text)
			return cells != nil || gotos != nil || clashes != nil || settled != 0, errno, at
		}},
		{"pack.Make", func(text string) (bool, api.Errno, int) {
			b, errno, at := pack.Make(text)
			if errno == api.ErrClash && clashes(text) {
				return b == "", api.OK, at
			}
			return b != "", errno, at
		}},
		{"fold.Parse", func(text string) (bool, api.Errno, int) {
			nodes, errno, at := fold.Parse(text, []int{-1})
			if errno == api.ErrClash && clashes(text) || errno == api.ErrWord {
				return nodes == nil, api.OK, at
			}
			return nodes != nil, errno, at
		}},
		{"comb.Generate", func(text string) (bool, api.Errno, int) {
			b, found, errno, at := comb.Generate(text)
			if errno == api.ErrClash && clashes(text) {
				return b == "" && found != nil, api.OK, at
			}
			return b != "" || found != nil, errno, at
		}},
	}
}

func checkRefused(t *testing.T, text string, errno api.Errno, at int, calls []call) {
	t.Helper()
	for _, c := range calls {
		answered, gotErrno, gotAt := c.of(text)
		if gotErrno != errno || gotAt != at {
			t.Errorf("%s(%.60q) = %d, %d, want %d, %d", c.name, text, gotErrno, gotAt, errno, at)
		}
		if answered != (gotErrno == api.OK) {
			t.Errorf("G2: %s(%.60q): an answer: %v, beside %d", c.name, text, answered, gotErrno)
		}
	}
}

// TestToldOn holds against B1, B5, D3, F2, K3, L1, V1 and Z1 that each error of the chapters ahead is told on with its place.
func TestToldOn(t *testing.T) {
	many := strings.Repeat("|", 300)
	for _, c := range []struct {
		text  string
		errno api.Errno
		at    int
	}{
		{"a=;" + strings.Repeat("\n", 1997), api.OK, 0},
		{"a=;" + strings.Repeat("\n", 1998), api.ErrLong, 0},
		{"", api.ErrForm, 0},
		{"a=A", api.ErrForm, 3},
		{"a=\xff;", api.ErrForm, 2},
		{"a=A %prec b;", api.ErrForm, 10},
		{"a=%before A;", api.ErrForm, 2},
		{"a=((((((((A))))))));", api.OK, 0},
		{"a=(((((((((A)))))))));", api.ErrDeep, 10},
		{"%left A B A;a=b;", api.ErrTwice, 10},
		{"a=b;a=;", api.ErrTwice, 4},
		{"a=A b;", api.ErrName, 4},
		{"a=A %prec A;", api.ErrName, 10},
		{"a=;b=b;", api.ErrUnused, 3},
		{"a=b?;b=b;", api.ErrEndless, 5},
		{"a=" + many + "b;b=b;", api.ErrEndless, 304},
		{"a=" + many + ";", api.ErrMany, 0},
	} {
		checkRefused(t, c.text, c.errno, c.at, calls())
	}
}

// TestManyStates holds just as many states as there may be, and one more, against D3, F2, K3, L1, V1 and Z1.
func TestManyStates(t *testing.T) {
	// State 0, one behind the name, and one behind each sign of the right side; a group adds one behind its helper.
	row := func(count int) string { return strings.Repeat(" A", count) }
	for _, c := range []struct {
		text   string
		states int
	}{
		{"a =" + row(298) + ";", 300},
		{"a =" + row(299) + ";", 301},
		{"a =" + row(900) + ";", 902},
		{"a =" + row(149) + "| B" + row(148) + ";", 300},
		{"a =" + row(149) + "| B" + row(149) + ";", 301},
		{"a = b" + row(149) + "; b = (B" + row(146) + ");", 300},
		{"a = b" + row(149) + "; b = (B" + row(147) + ");", 301},
	} {
		checkRefused(t, c.text, api.OK, 0, calls()[:2])
		if c.states > 300 {
			checkRefused(t, c.text, api.ErrMany, 0, calls()[2:])
			continue
		}
		checkRefused(t, c.text, api.OK, 0, calls()[2:])
		if kernels, _, _, _ := state.States(c.text); len(kernels) != c.states {
			t.Errorf("D2: States(%.60q): %d states, want %d", c.text, len(kernels), c.states)
		}
		if aheads, _, _ := look.Look(c.text); len(aheads) != c.states {
			t.Errorf("F2: Look(%.60q): %d states, want %d", c.text, len(aheads), c.states)
		}
	}
	checkRefused(t, "a ="+row(299)+"; b=;", api.ErrUnused, 603, calls())
}

// TestAnyText hands in bytes that fell anyhow, and grammars in which some of the bytes are changed.
func TestAnyText(t *testing.T) {
	r := rand.New(rand.NewSource(3))
	signs := "aaabcABC===;;;;|()*+?  \n#%\x00\xff"
	good := 0
	for i := range 10000 {
		b := []byte(edgeGrammars[r.Intn(len(edgeGrammars))])
		changes := r.Intn(3)
		if i%2 == 0 {
			b = make([]byte, r.Intn(30))
			changes = 4 * len(b)
		}
		for range changes {
			b[r.Intn(len(b))] = signs[r.Intn(len(signs))]
		}
		text := string(b)
		_, errno, at := gram.Parse(text)
		if errno == api.OK {
			_, errno, at = plain.Make(text)
		}
		if errno == api.OK {
			good++
		}
		if at < 0 || at > len(text) {
			t.Errorf("G2: %q: %d is no place in it", text, at)
		}
		checkRefused(t, text, errno, at, calls())
	}
	if good < 1000 {
		t.Errorf("only %d of the texts were grammars without a fault", good)
	}
}
