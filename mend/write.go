package mend

import "strings"

// writeTokens writes the tokens of a text that has been read.
func writeTokens(tokens []token) string {
	var out strings.Builder
	for i, t := range tokens {
		if i == 1 || i > 1 && blankBetween(tokens[i-1], t) {
			out.WriteByte(' ')
		}
		out.WriteString(t.written())
	}
	return out.String()
}

// blankBetween leans on the grammar: two numbers side by side are one point's.
func blankBetween(before, after token) bool {
	return before.raw == "," || before.kind == number && after.kind == number
}
