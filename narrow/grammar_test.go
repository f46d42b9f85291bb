package narrow_test

import (
	"strings"
	"unicode/utf8"
)

// This file tells what is a source and what is a graph in one more way: by the rules of a grammar,
// where a Greek letter stands for what its rules say, or for any sign of its class.

var classes = map[rune]string{
	'υ': "abcdef",
	'κ': "ntfzABC",
	'δ': "0123456789",
	'ζ': "0123456789TFZC?abcdef",
}

const (
	sources = 'σ'
	graphs  = 'γ'
)

var rules = map[rune][]string{
	'σ': {"", "α;σ", "!;σ", "(χ{σ}{σ})σ", "[χ{λ}]σ"},
	'λ': {"", "α;λ", "!;λ", "(χ{λ}{λ})λ", "[χ{λ}]λ", ">;λ", "<;λ"},
	'γ': {"", "αω;γ", "τωω;γ", "!;γ", "*ω;γ"},
	'α': {"υ=ζ", "υ=+υυ", "υ=<υυ", "υ=Aυ", "υ=Bυ", "υ=.υ", "^υ", "υ~κ"},
	'χ': {"τ", "!χ", "&χχ", "|χχ"},
	'τ': {"υ", "υ:κ"},
	'ω': {",δδ"},
}

// expanded are the ways to write what is still to come so that it begins with a sign or a class.
func expanded(rest string) []string {
	letter, size := utf8.DecodeRuneInString(rest)
	choices, found := rules[letter]
	if !found {
		return []string{rest}
	}
	all := []string{}
	for _, choice := range choices {
		all = append(all, expanded(choice+rest[size:])...)
	}
	return all
}

// behindSign is what is still to come behind a sign, and whether the sign can stand there.
func behindSign(rest string, sign byte) (string, bool) {
	letter, size := utf8.DecodeRuneInString(rest)
	class, found := classes[letter]
	if !found {
		class = rest[:size]
	}
	return rest[size:], strings.IndexByte(class, sign) >= 0
}

// wrongPlace is the place of the first byte that cannot stand there, the text's length if it ends too early,
// and -1 if all is well.
func wrongPlace(start rune, text string) int {
	rests := expanded(string(start))
	for at := range len(text) {
		next := []string{}
		for _, rest := range rests {
			if behind, found := behindSign(rest, text[at]); found {
				next = append(next, expanded(behind)...)
			}
		}
		if len(next) == 0 {
			return at
		}
		rests = next
	}
	for _, rest := range rests {
		if rest == "" {
			return -1
		}
	}
	return len(text)
}
