package pack_test

import (
	"math/rand"
	"strings"
	"testing"

	"comb/api"
	"comb/pack"
)

func mustLoad(t *testing.T, text string) *pack.Pack {
	t.Helper()
	b, errno, at := pack.Make(text)
	if errno != api.OK || at != 0 {
		t.Fatalf("L1: Make(%q) = %d, %d", text, errno, at)
	}
	p, errno := pack.Load(b)
	if p == nil || errno != api.OK {
		t.Fatalf("L2: Load of what is made of %q: %d", text, errno)
	}
	return p
}

// TestDefaults asks the states of small tables that have a default, and those that have none.
func TestDefaults(t *testing.T) {
	for _, c := range []struct {
		what, text string
		state      int
		want       []api.Cell
	}{
		{"no cell reduces", "s=A s|;", 2, []api.Cell{{Do: 3}, {}}},
		{"no cell reduces, some shift", "e=e A B|B;", 0, []api.Cell{{}, {}, {Do: 1, To: 1}}},
		{"a cell that does nothing", "s=A s|;", 3, []api.Cell{{Do: 2, To: 1}, {Do: 2, To: 1}}},
		{"a told cell", "s=A s|;", 0, []api.Cell{{Do: 2, To: 2}, {Do: 1, To: 1}}},
		{"as many of each production", "s=a A|b B|c;a=Z;b=Z;c=Z;", 1, []api.Cell{{Do: 2, To: 6}, {Do: 2, To: 4}, {Do: 2, To: 5}, {Do: 2, To: 4}}},
		{"most of the later production", "s=a A|b B|b C;a=Z;b=Z;", 1, []api.Cell{{Do: 2, To: 5}, {Do: 2, To: 4}, {Do: 2, To: 5}, {Do: 2, To: 5}, {Do: 2, To: 5}}},
		{"most of a later production than the first", "s=Z|a A|a B;a=Z;", 1, []api.Cell{{Do: 2, To: 1}, {Do: 2, To: 4}, {Do: 2, To: 4}, {Do: 2, To: 4}}},
		{"nothing, by its level", "%none A;e=e A e|B;", 4, []api.Cell{{Do: 2, To: 1}, {Do: 4}, {Do: 2, To: 1}}},
	} {
		p := mustLoad(t, c.text)
		for token, want := range c.want {
			if got := p.Action(c.state, token); got != want {
				t.Errorf("L3: %s: Action(%d, %d) of %q = %v, want %v", c.what, c.state, token, c.text, got, want)
			}
		}
	}
}

func TestClash(t *testing.T) {
	for _, text := range []string{"e=e A e|B;", "s=a|b;a=A;b=A;", "s=s|A;", "%left A;e=e A e|e B e|Z;"} {
		if b, errno, at := pack.Make(text); b != "" || errno != api.ErrClash || at != 0 {
			t.Errorf("L1: Make(%q) = %q, %d, %d", text, b, errno, at)
		}
	}
}

func TestWrongBytes(t *testing.T) {
	b, _, _ := pack.Make("a=A*;")
	for _, wrong := range []string{
		"", "\x00", "a=A*;", b[1:], b[len(b)/2:], b[4:] + b[:4], strings.ToUpper(b),
		strings.Repeat("\x00", 1000), strings.Repeat("\xff", 1000), strings.Repeat("\x00\x01", 1000),
		strings.Repeat("\xff", 1<<24),
	} {
		if p, errno := pack.Load(wrong); p != nil || errno != api.ErrData {
			t.Errorf("L2: Load(%.30q): %v, %d", wrong, p != nil, errno)
		}
	}
	r := rand.New(rand.NewSource(1))
	for range 20000 {
		wrong := make([]byte, r.Intn(100))
		for i := range wrong {
			wrong[i] = byte(r.Intn(1 + r.Intn(256)))
		}
		if p, errno := pack.Load(string(wrong)); p != nil || errno != api.ErrData {
			t.Errorf("L2: Load(%q): %v, %d", wrong, p != nil, errno)
		}
	}
}
