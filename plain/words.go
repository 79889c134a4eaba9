package plain

import "comb/sign"

// role is what a NAME or TOKEN stands for where it stands.
type role int

const (
	levelToken role = iota // in a level
	ruleName               // ahead of `=`
	usedName               // in a rule's right side
	usedToken              // likewise
	precToken              // behind `%prec`
)

// word is a NAME or TOKEN of the text. A Grammar does not tell where its words stand, so they are found here once more.
type word struct {
	role role
	text string
	at   int
}

// wordsOf tells the words of a grammar's text, which gram.Parse has passed.
func wordsOf(text string) []word {
	var words []word
	signs := sign.All(text)
	behind := ""
	inLevels := true
	for i, s := range signs {
		switch {
		case sign.IsName(s.Text):
			inLevels = false
			words = append(words, word{nameRole(signs[i+1].Text), s.Text, s.At})
		case sign.IsToken(s.Text):
			words = append(words, word{tokenRole(behind, inLevels), s.Text, s.At})
		}
		behind = s.Text
	}
	return words
}

func nameRole(next string) role {
	if next == "=" {
		return ruleName
	}
	return usedName
}

func tokenRole(behind string, inLevels bool) role {
	switch {
	case inLevels:
		return levelToken
	case behind == "%prec":
		return precToken
	}
	return usedToken
}
