// Package sign parts a grammar's text into signs (doc/01-gram.md). Both gram, which reads them, and plain, which must tell where a word stands, go by these.
package sign

// maxWord is how many letters and digits a NAME or TOKEN may have.
const maxWord = 12

// Sign is a word, with the `%` ahead of it, or else a single byte; and its place in the text.
type Sign struct {
	Text string
	At   int
}

// All tells the signs of a text in their order, and behind them an empty one at the text's length, so that a reader never runs out of signs.
func All(text string) []Sign {
	var signs []Sign
	at := passGap(text, 0)
	for at < len(text) {
		end := signEnd(text, at)
		signs = append(signs, Sign{Text: text[at:end], At: at})
		at = passGap(text, end)
	}
	return append(signs, Sign{At: at})
}

// IsName tells whether a sign is a NAME.
func IsName(text string) bool { return isWordOf(text, isSmall) }

// IsToken tells whether a sign is a TOKEN.
func IsToken(text string) bool { return isWordOf(text, isCapital) }

// passGap tells where the blanks and remarks that stand at a place end.
func passGap(text string, at int) int {
	remark := false
	for at < len(text) {
		switch c := text[at]; {
		case c == '\n':
			remark = false
		case c == '#':
			remark = true
		case !remark && c != ' ' && c != '\t':
			return at
		}
		at++
	}
	return at
}

// signEnd tells where the sign that begins at a place ends. A `%` with no letter behind it is a word too: one that can stand nowhere.
func signEnd(text string, at int) int {
	end := at
	if text[end] == '%' {
		end++
	}
	for end < len(text) && isWordByte(text[end]) {
		end++
	}
	return max(end, at+1)
}

func isWordOf(text string, isLetter func(byte) bool) bool {
	if len(text) == 0 || len(text) > maxWord || !isLetter(text[0]) {
		return false
	}
	for i := range len(text) {
		if !isLetter(text[i]) && !isDigit(text[i]) {
			return false
		}
	}
	return true
}

func isWordByte(c byte) bool { return isSmall(c) || isCapital(c) || isDigit(c) }

func isSmall(c byte) bool { return 'a' <= c && c <= 'z' }

func isCapital(c byte) bool { return 'A' <= c && c <= 'Z' }

func isDigit(c byte) bool { return '0' <= c && c <= '9' }
