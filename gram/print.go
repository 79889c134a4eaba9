package gram

import (
	"strings"

	"comb/sign"
)

// plainForm writes signs, the last one of which is the empty one at the text's end (A3).
func plainForm(signs []sign.Sign) string {
	var out strings.Builder
	behind := ""
	for _, s := range signs {
		out.WriteString(gap(behind, s.Text))
		out.WriteString(s.Text)
		behind = s.Text
	}
	return out.String()
}

// gap tells what stands between two signs; an empty one is the text's beginning or its end.
func gap(left, right string) string {
	switch {
	case left == ";":
		return "\n"
	case left == "" || left == "(" || right == "":
		return ""
	}
	switch right {
	case ";", ")", "*", "+", "?":
		return ""
	}
	return " "
}
