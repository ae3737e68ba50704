package mend

import "strconv"

// A kind is what sort of token stands at a place.
type kind int

const (
	stray  kind = iota // what is no token
	ending             // the text's end
	word
	number
	sign
)

const maxDigits = 9

// A token is a piece of a text, as it stands there.
type token struct {
	kind  kind
	raw   string
	value int // of a number
	place int
}

// end is the place behind the token.
func (t token) end() int {
	return t.place + len(t.raw)
}

// written is the token without needless zeros and signs.
func (t token) written() string {
	if t.kind == number {
		return strconv.Itoa(t.value)
	}
	return t.raw
}

// tokenFrom finds the first token that begins at the place or behind it.
func tokenFrom(text string, place int) token {
	place = skip(text, place, isBlank)
	if place == len(text) {
		return token{kind: ending, place: place}
	}
	switch first := text[place]; {
	case isLetter(first):
		return token{kind: word, raw: text[place:skip(text, place, isLetter)], place: place}
	case isDigit(first), first == '-':
		return numberAt(text, place)
	case first == '(', first == ')', first == ',':
		return token{kind: sign, raw: text[place : place+1], place: place}
	}
	return token{kind: stray, place: place}
}

// numberAt takes all digits ahead of counting them: a part of a longer row of
// digits is no number either. A lone minus sign is refused as having no value.
func numberAt(text string, place int) token {
	digits := place
	if text[place] == '-' {
		digits++
	}
	end := skip(text, digits, isDigit)
	raw := text[place:end]
	value, err := strconv.Atoi(raw)
	if err != nil || end-digits > maxDigits {
		return token{kind: stray, place: place}
	}
	return token{kind: number, raw: raw, value: value, place: place}
}

// skip is the first place, from the given one on, whose byte is not as asked.
func skip(text string, place int, asked func(byte) bool) int {
	for place < len(text) && asked(text[place]) {
		place++
	}
	return place
}

func isBlank(b byte) bool { return b == ' ' }

func isLetter(b byte) bool { return 'A' <= b && b <= 'Z' }

func isDigit(b byte) bool { return '0' <= b && b <= '9' }
