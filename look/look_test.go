package look_test

import (
	"fmt"
	"slices"
	"strings"
	"testing"

	"comb/api"
	"comb/look"
)

// told writes of each state that has ends its number, and its productions with their tokens.
func told(aheads [][]api.Ahead) []string {
	var out []string
	for i, list := range aheads {
		if len(list) == 0 {
			continue
		}
		line := fmt.Sprint(i, ":")
		for _, ahead := range list {
			line += fmt.Sprintf(" %d%v", ahead.Prod, ahead.Tokens)
		}
		out = append(out, line)
	}
	return out
}

func TestWorkedOut(t *testing.T) {
	for _, c := range []struct {
		what, text string
		states     int
		want       []string
	}{
		{"nothing", "a=;", 2, []string{"0: 1[0]", "1: 0[0]"}},
		{"to the right", "s=A s|;", 4, []string{"0: 2[0]", "1: 2[0]", "2: 0[0]", "3: 1[0]"}},
		{"to the left", "s=s A|;", 3, []string{"0: 2[0 1]", "1: 0[0]", "2: 1[0 1]"}},
		{"levels of operators", "e=e A t|t;t=t B f|f;f=C e D|E;", 12, []string{
			"2: 6[0 1 2 4]", "3: 0[0]", "4: 2[0 1 4]", "5: 4[0 1 2 4]", "9: 5[0 1 2 4]", "10: 1[0 1 4]", "11: 3[0 1 2 4]"}},
		{"less than may stand behind the name", "s=l C r|r;l=A r|B;r=l;", 10, []string{
			"2: 4[0 1]", "3: 0[0]", "4: 5[0]", "5: 2[0]", "6: 5[0 1]", "7: 3[0 1]", "9: 1[0]"}},
		{"long states that part", "s=A a D|B b D|A b E|B a E;a=C;b=C;", 13, []string{
			"3: 0[0]", "4: 5[2 4] 6[2 4]", "9: 1[0]", "10: 3[0]", "11: 4[0]", "12: 2[0]"}},
		{"long states that do not meet", "s=A a D|B b D|A b E|B a E;a=C F;b=C G;", 15, []string{
			"3: 0[0]", "9: 5[2 4]", "10: 6[2 4]", "11: 1[0]", "12: 3[0]", "13: 4[0]", "14: 2[0]"}},
		{"names that can be empty", "s=a b c D;a=A|;b=B|;c=C|;", 9, []string{
			"0: 3[1 3 4]", "1: 2[1 3 4]", "2: 0[0]", "3: 5[1 4]", "4: 4[1 4]", "5: 7[1]", "6: 6[1]", "8: 1[0]"}},
		{"a ring of names that can be empty", "a=b|A;b=c|;c=a|B;", 6, []string{
			"0: 4[0]", "1: 2[0]", "2: 6[0]", "3: 0[0] 5[0]", "4: 1[0]", "5: 3[0]"}},
		{"several ends in one state", "s=a A|b B|c;a=Z;b=Z;c=Z;", 8, []string{
			"1: 4[1] 5[2] 6[0]", "2: 0[0]", "5: 3[0]", "6: 1[0]", "7: 2[0]"}},
		{"empty ones beside one another", "s=a A|b B;a=;b=;", 6, []string{"0: 3[1] 4[2]", "1: 0[0]", "4: 1[0]", "5: 2[0]"}},
	} {
		aheads, errno, at := look.Look(c.text)
		if errno != api.OK || at != 0 || len(aheads) != c.states {
			t.Errorf("F2: %s: Look(%q): %d states, want %d (%d, %d)", c.what, c.text, len(aheads), c.states, errno, at)
		}
		if got := told(aheads); !slices.Equal(got, c.want) {
			t.Errorf("F1, F2: %s: Look(%q) = %q, want %q", c.what, c.text, got, c.want)
		}
	}
}

// TestManyTokens has so many tokens ahead of one name that they do not go into one machine word, nor just fill the last one.
func TestManyTokens(t *testing.T) {
	for _, count := range []int{1, 62, 63, 64, 65, 127, 128, 129, 190} {
		text := "s="
		want := []int{0}
		for i := range count {
			text += fmt.Sprintf("a T%d|", i)
			want = append(want, i+1)
		}
		aheads, errno, at := look.Look(text + "a;a=;")
		if errno != api.OK || at != 0 || len(aheads[0]) != 1 || !slices.Equal(aheads[0][0].Tokens, want) {
			t.Errorf("F1: ahead of %d tokens and the end: %v, %d, %d", count, aheads[0], errno, at)
		}
	}
}

func TestLimit(t *testing.T) {
	text := "a=" + strings.Repeat(" A", 298)
	aheads, errno, at := look.Look(text + ";")
	if want := []string{"2: 0[0]", "299: 1[0]"}; len(aheads) != 300 || errno != api.OK || at != 0 || !slices.Equal(told(aheads), want) {
		t.Errorf("F2: %d states, %q, %d, %d", len(aheads), told(aheads), errno, at)
	}
	aheads, errno, at = look.Look(text + " A;")
	if aheads != nil || errno != api.ErrMany || at != 0 {
		t.Errorf("F2: %d states, %d, %d", len(aheads), errno, at)
	}
}
