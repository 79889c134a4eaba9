package sign

import (
	"slices"
	"strings"
	"testing"
)

func TestAll(t *testing.T) {
	for _, c := range []struct {
		text string
		want []Sign
	}{
		{"", []Sign{{"", 0}}},
		{" \t\n", []Sign{{"", 3}}},
		{"# a # b", []Sign{{"", 7}}},
		{"#\n#\nx#y\n", []Sign{{"x", 4}, {"", 8}}},
		{"%left A1b;", []Sign{{"%left", 0}, {"A1b", 6}, {";", 9}, {"", 10}}},
		{"a%b%%1(", []Sign{{"a", 0}, {"%b", 1}, {"%", 3}, {"%1", 4}, {"(", 6}, {"", 7}}},
		{"%\n", []Sign{{"%", 0}, {"", 2}}},
		{"\x00\xff\r", []Sign{{"\x00", 0}, {"\xff", 1}, {"\r", 2}, {"", 3}}},
	} {
		if got := All(c.text); !slices.Equal(got, c.want) {
			t.Errorf("All(%q) = %v, want %v", c.text, got, c.want)
		}
	}
}

func TestKinds(t *testing.T) {
	small, capital := "abcdefghij01", "ABCDEFGHIJ01"
	for _, word := range []string{"a", "z9", small} {
		if !IsName(word) || IsToken(word) {
			t.Errorf("%q is a NAME, and no TOKEN", word)
		}
		if up := strings.ToUpper(word); !IsToken(up) || IsName(up) {
			t.Errorf("%q is a TOKEN, and no NAME", up)
		}
	}
	for _, word := range []string{"", "1", "1a", "1A", "aB", "Ab", small + "2", capital + "2", "%a", "%A", "a'1", "_", "a ", "\xe4"} {
		if IsName(word) || IsToken(word) {
			t.Errorf("%q is neither a NAME nor a TOKEN", word)
		}
	}
}
