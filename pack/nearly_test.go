package pack

import (
	"fmt"
	"hash/crc32"
	"math"
	"math/rand"
	"slices"
	"strings"
	"testing"

	"comb/api"
	"comb/deed"
)

// The tests here look at what Load answers to bytes that have a pack's form, and the sum that they must have, but are none of Make's.

func TestSum(t *testing.T) {
	r := rand.New(rand.NewSource(1))
	for size := range 300 {
		b := make([]byte, size)
		for i := range b {
			b[i] = byte(r.Intn(256))
		}
		if want := crc32.ChecksumIEEE(b); sum(b) != want || sum(string(b)) != want {
			t.Fatalf("the sum of %x is %x, and %x as a text, want %x", b, sum(b), sum(string(b)), want)
		}
	}
}

// sealed puts the sum that bytes must have in place of their last ones.
func sealed(b []byte) string {
	w := writer{b[:len(b)-sumBytes]}
	w.number(sumBytes, int(crc32.ChecksumIEEE(w.bytes)))
	return string(w.bytes)
}

// checkInside holds all that a pack answers to numbers from 0 to the sizes less 1 against L4.
func checkInside(t *testing.T, what string, p *Pack) {
	t.Helper()
	states, tokens, names, prods := p.Sizes()
	if !within(states-1, 300) || !within(tokens-1, 1000) || !within(names-1, 1000) || !within(prods-1, 200) {
		t.Fatalf("L4: %s: Sizes: %d, %d, %d, %d", what, states, tokens, names, prods)
	}
	for i := range prods {
		if left, size := p.Prod(i); !within(left-tokens, names) || !within(size, 1001) {
			t.Errorf("L4: %s: Prod(%d) = %d, %d", what, i, left, size)
		}
	}
	first, size := [...]int{0, 1, 1, 0, 0}, [...]int{1, states, prods, 1, 1}
	for state := range states {
		for token := range tokens {
			cell := p.Action(state, token)
			if !within(cell.Do, 5) || cell.To < first[cell.Do] || cell.To >= size[cell.Do] {
				t.Errorf("L4: %s: Action(%d, %d) = %v", what, state, token, cell)
			}
		}
		for name := range names {
			if to := p.Goto(state, name); !within(to, states) {
				t.Errorf("L4: %s: Goto(%d, %d) = %d", what, state, name, to)
			}
		}
	}
}

// none tells numbers that are not from 0 to size less 1.
func none(size int) []int {
	return []int{math.MinInt, math.MinInt32, -size, -2, -1, size, size + 1, 2 * size, math.MaxInt32, math.MaxInt}
}

// checkOutside holds what a pack answers to numbers that are none of its own against L4.
func checkOutside(t *testing.T, what string, p *Pack) {
	t.Helper()
	states, tokens, names, prods := p.Sizes()
	for _, i := range none(prods) {
		if left, size := p.Prod(i); left != 0 || size != 0 {
			t.Errorf("L4: %s: Prod(%d) = %d, %d", what, i, left, size)
		}
	}
	checkCells := func(state, token, name int) {
		if cell, to := p.Action(state, token), p.Goto(state, name); cell != (api.Cell{}) || to != 0 {
			t.Errorf("L4: %s: Action(%d, %d) = %v, Goto(%d, %d) = %d", what, state, token, cell, state, name, to)
		}
	}
	noTokens, noNames := none(tokens), none(names)
	for i := range noTokens {
		if token, name := p.Token(noTokens[i]), p.Name(noNames[i]); token != "" || name != "" {
			t.Errorf("L4: %s: Token(%d) = %q, Name(%d) = %q", what, noTokens[i], token, noNames[i], name)
		}
		for state := range states {
			checkCells(state, noTokens[i], noNames[i])
		}
	}
	for _, state := range none(states) {
		for _, i := range []int{math.MinInt, -1, 0, 1, tokens - 1, tokens, names - 1, names, math.MaxInt} {
			checkCells(state, i, i)
		}
	}
}

var packable = []string{
	"a=;", "s=A s|;", "a=A*;", "%none A;e=e A e|B;", "s=a A|b B|c;a=Z;b=Z;c=Z;",
	"%left A;%right B;e=e A e|e B e|C e D|Z;", "l = C (X (D X)*)? E;", "%left B; s = s B s | C?;",
}

func packed(t *testing.T, text string) string {
	t.Helper()
	b, errno, at := Make(text)
	if errno != api.OK {
		t.Fatalf("L1: Make(%q) = %d, %d", text, errno, at)
	}
	return b
}

func TestNumbers(t *testing.T) {
	for _, text := range packable {
		p, errno := Load(packed(t, text))
		if errno != api.OK {
			t.Fatalf("L2: Load of what is made of %q: %d", text, errno)
		}
		checkInside(t, text, p)
		checkOutside(t, text, p)
	}
}

// TestNearly turns some bytes of packs into others, and puts the sum right.
func TestNearly(t *testing.T) {
	r := rand.New(rand.NewSource(2))
	loaded := 0
	for range 20000 {
		text := packable[r.Intn(len(packable))]
		b := []byte(packed(t, text))
		for range 1 + r.Intn(3) {
			i := r.Intn(len(b))
			b[i] = []byte{b[i] + 1, b[i] - 1, 0, 1, 2, 255, byte(r.Intn(256)), b[i] ^ 1<<r.Intn(8)}[r.Intn(8)]
		}
		switch r.Intn(10) {
		case 0:
			b = b[:max(sumBytes, r.Intn(len(b)))]
		case 1:
			i := r.Intn(len(b))
			b = slices.Insert(b, i, byte(r.Intn(256)))
		}
		nearly := sealed(b)
		p, errno := Load(nearly)
		if (p == nil) != (errno == api.ErrData) || p != nil && errno != api.OK {
			t.Fatalf("L2: Load(%x): %v, %d", nearly, p != nil, errno)
		}
		if p != nil {
			loaded++
			checkInside(t, fmt.Sprintf("%x", nearly), p)
			checkOutside(t, fmt.Sprintf("%x", nearly), p)
		}
	}
	if loaded < 1000 {
		t.Errorf("only %d of the packs were loaded", loaded)
	}
}

// blank makes a pack of words and productions of nothing, and states in which nothing is done.
func blank(states, tokens, names, prods int) *Pack {
	p := &Pack{
		longRow:  longRow{begins: make([]int, states)},
		tokens:   make([]string, tokens),
		names:    make([]string, names),
		prods:    make([]prod, prods),
		defaults: make([]int, states),
	}
	for i := range p.prods {
		p.prods[i].left = tokens
	}
	return p
}

func checkLoads(t *testing.T, what string, b string, loads bool) {
	t.Helper()
	p, errno := Load(b)
	if (p != nil) != loads || loads != (errno == api.OK) || !loads && errno != api.ErrData {
		t.Errorf("L4: %s: Load: %v, %d", what, p != nil, errno)
	}
	if p != nil {
		checkInside(t, what, p)
		checkOutside(t, what, p)
	}
}

func TestSizes(t *testing.T) {
	for _, c := range []struct {
		sizes [4]int
		loads bool
	}{
		{[4]int{1, 1, 1, 1}, true},
		{[4]int{300, 1, 1, 1}, true},
		{[4]int{301, 1, 1, 1}, false},
		{[4]int{1, 1000, 1, 1}, true},
		{[4]int{1, 1001, 1, 1}, false},
		{[4]int{1, 1, 1000, 1}, true},
		{[4]int{1, 1, 1001, 1}, false},
		{[4]int{1, 1, 1, 200}, true},
		{[4]int{1, 1, 1, 201}, false},
		{[4]int{300, 1000, 1000, 200}, true},
		{[4]int{0, 1, 1, 1}, false},
		{[4]int{1, 0, 1, 1}, false},
		{[4]int{1, 1, 0, 1}, false},
		{[4]int{1, 1, 1, 0}, false},
	} {
		b := written(blank(c.sizes[0], c.sizes[1], c.sizes[2], c.sizes[3]))
		checkLoads(t, fmt.Sprint("the sizes ", c.sizes), b, c.loads)
	}
}

// TestParts makes packs of 3 states, 4 tokens, 2 names and 5 productions, each with one thing of its own.
func TestParts(t *testing.T) {
	put := func(state, symbol, do, to int) func(*Pack) {
		return func(p *Pack) {
			p.places = make([]place, p.begins[state]+symbol+1)
			p.places[p.begins[state]+symbol] = place{api.Cell{Do: do, To: to}, state}
		}
	}
	for _, c := range []struct {
		what  string
		loads bool
		with  func(*Pack)
	}{
		{"nothing", true, func(p *Pack) {}},
		{"the last name on the left", true, func(p *Pack) { p.prods[4].left = 5 }},
		{"no name on the left", false, func(p *Pack) { p.prods[4].left = 6 }},
		{"a token on the left", false, func(p *Pack) { p.prods[4].left = 3 }},
		{"a right side of 1000", true, func(p *Pack) { p.prods[4].size = 1000 }},
		{"a right side of 1001", false, func(p *Pack) { p.prods[4].size = 1001 }},
		{"the last production by default", true, func(p *Pack) { p.defaults[2] = 4 }},
		{"no production by default", false, func(p *Pack) { p.defaults[2] = 5 }},
		{"a long word", true, func(p *Pack) { p.names[1] = strings.Repeat("a", 255) }},
		{"a word that is longer than its bytes tell", false, func(p *Pack) { p.names[1] = strings.Repeat("a", 256) }},
		{"a row that begins far off", true, func(p *Pack) { p.begins[2] = 1<<24 - 1 }},
		{"a shift to the last state", true, put(0, 0, deed.Shift, 2)},
		{"a shift to no state", false, put(0, 0, deed.Shift, 3)},
		{"a shift to state 0", false, put(0, 0, deed.Shift, 0)},
		{"a shift far off", false, put(0, 0, deed.Shift, 1<<toBits-1)},
		{"a reduction of the last production", true, put(1, 1, deed.Reduce, 4)},
		{"a reduction of no production", false, put(1, 1, deed.Reduce, 5)},
		{"a reduction of production 0", false, put(1, 1, deed.Reduce, 0)},
		{"an accept", true, put(2, 3, deed.Accept, 0)},
		{"an accept of something", false, put(2, 3, deed.Accept, 1)},
		{"nothing by its level", true, put(2, 3, deed.Never, 0)},
		{"something by its level", false, put(2, 3, deed.Never, 1)},
		{"what is not done", false, put(2, 3, deed.Never+1, 0)},
		{"what is far from being done", false, put(2, 3, 15, 0)},
		{"an edge by the last name", true, put(2, 5, deed.Shift, 2)},
		{"an edge to no state", false, put(2, 5, deed.Shift, 3)},
		{"an edge to state 0", false, put(2, 5, deed.Shift, 0)},
		{"a reduction by a name", false, put(2, 5, deed.Reduce, 1)},
		{"an accept by a name", false, put(2, 4, deed.Accept, 0)},
		{"nothing by the level of a name", false, put(2, 4, deed.Never, 0)},
		{"an edge by no symbol", false, put(2, 6, deed.Shift, 2)},
		{"no state's cell", false, func(p *Pack) { put(0, 0, deed.Shift, 1)(p); p.places[0].state = 3 }},
		{"a cell ahead of its row", false, func(p *Pack) { put(2, 0, deed.Shift, 1)(p); p.begins[2] = 1 }},
		{"a cell in the first place of its row", true, func(p *Pack) { p.begins[2] = 1; put(2, 0, deed.Shift, 1)(p) }},
		{"the last place of the long row", true, func(p *Pack) { p.begins[2] = 12; put(2, 5, deed.Shift, 1)(p) }},
		{"beyond the last place of the long row", false, func(p *Pack) { p.begins[2] = 13; put(2, 5, deed.Shift, 1)(p) }},
	} {
		p := blank(3, 4, 2, 5)
		c.with(p)
		checkLoads(t, c.what, written(p), c.loads)
	}
}

// TestWord makes a pack in which a word is told to be longer than what is behind it.
func TestWord(t *testing.T) {
	b := []byte(written(blank(1, 1, 1, 1)))
	at := 4*sizeBytes + lengthBytes
	for length := range 256 {
		b[at] = byte(length)
		checkLoads(t, fmt.Sprint("a word told to have ", length, " bytes"), sealed(b), length == 0)
	}
}

// TestCounts makes packs that tell more or fewer places of the long row than they have.
func TestCounts(t *testing.T) {
	p := blank(2, 2, 1, 1)
	p.begins[1] = 3
	for at := range 6 {
		p.places = append(p.places, place{api.Cell{Do: deed.Shift, To: 1}, at / 3})
	}
	b := []byte(written(p))
	at := len(b) - sumBytes - 6*(gapBytes+stateBytes+cellBytes) - 1
	for count := range 256 {
		b[at] = byte(count)
		checkLoads(t, fmt.Sprint("6 places told as ", count), sealed(b), count == 6)
	}
	full := b[:len(b)-sumBytes]
	full[at] = 7
	for range 20 {
		full = append(full, full[len(full)-6:]...)
	}
	checkLoads(t, "more places than there are cells", sealed(append(full, 0, 0, 0, 0)), false)
}
