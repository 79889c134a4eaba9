package gram

import (
	"strings"

	"comb/api"
	"comb/sign"
)

// ending is thrown where a text cannot go on as it does.
type ending struct {
	errno api.Errno
	at    int
}

// endingOf tells what ended a text. Anything else that was thrown is a fault of the program's own, and is not hidden.
func endingOf(thrown any) ending {
	end, ok := thrown.(ending)
	if !ok {
		panic(thrown)
	}
	return end
}

// signReader reads signs one after the other.
type signReader struct {
	signs []sign.Sign // those not yet passed; the empty one at the text's end never is
}

// ahead tells the text of the next sign; it is empty at the text's end.
func (r *signReader) ahead() string { return r.signs[0].Text }

func (r *signReader) sees(text string) bool { return r.ahead() == text }

func (r *signReader) pass() { r.signs = r.signs[1:] }

// throw ends the reading at the next sign.
func (r *signReader) throw(errno api.Errno) {
	panic(ending{errno: errno, at: r.signs[0].At})
}

// passIf passes the next sign if it is the one that is asked for.
func (r *signReader) passIf(text string) bool {
	if !r.sees(text) {
		return false
	}
	r.pass()
	return true
}

func (r *signReader) mustPass(text string) {
	if !r.passIf(text) {
		r.throw(api.ErrForm)
	}
}

// word passes a word of the kind that is asked for, and tells a copy of it: what is answered shares no memory with the text.
func (r *signReader) word(isKind func(string) bool) string {
	text := r.ahead()
	if !isKind(text) {
		r.throw(api.ErrForm)
	}
	r.pass()
	return strings.Clone(text)
}

func (r *signReader) name() string { return r.word(sign.IsName) }

func (r *signReader) token() string { return r.word(sign.IsToken) }
