package mend

// A reader goes through a text token by token. Each of its methods that read
// takes what it can and tells whether that was all it must take. The first
// refusal ends the reading, so that next is then the token at fault.
type reader struct {
	text   string
	next   token
	tokens []token        // all that were taken
	rings  [][]complex128 // their points, one list a ring
}

// readText reads a whole text, or tells the error and its place.
func readText(text string) (*reader, Errno, int) {
	if len(text) > maxText {
		return nil, ErrLong, 0
	}
	r := &reader{text: text, next: tokenFrom(text, 0)}
	if !r.readWhole() || r.next.kind != ending {
		return nil, ErrForm, r.next.place
	}
	for _, t := range r.tokens {
		if t.kind == number && !within(t.value, maxCoord) {
			return nil, ErrRange, t.place
		}
	}
	return r, OK, 0
}

func (r *reader) readWhole() bool {
	if r.take("POLYGON") {
		return r.readPoly()
	}
	return r.take("MULTIPOLYGON") && r.readMulti()
}

func (r *reader) readMulti() bool {
	return r.take("EMPTY") || r.take("(") && r.readRow(r.readPoly)
}

func (r *reader) readPoly() bool {
	return r.take("EMPTY") || r.take("(") && r.readRow(r.readRing)
}

func (r *reader) readRing() bool {
	r.rings = append(r.rings, nil)
	return r.take("(") && (r.take(")") || r.readRow(r.readPoint))
}

// readRow reads one or more items with commas between them, and the sign that
// closes them.
func (r *reader) readRow(readItem func() bool) bool {
	for readItem() {
		if !r.take(",") {
			return r.take(")")
		}
	}
	return false
}

func (r *reader) readPoint() bool {
	x := r.next
	if !r.takeNumber() {
		return false
	}
	y := r.next
	if !r.takeNumber() {
		return false
	}
	last := len(r.rings) - 1
	r.rings[last] = append(r.rings[last], pointAt(x.value, y.value))
	return true
}

// take goes past the next token, if it is the given word or sign.
func (r *reader) take(raw string) bool {
	if r.next.raw != raw {
		return false
	}
	r.goOn()
	return true
}

func (r *reader) takeNumber() bool {
	if r.next.kind != number {
		return false
	}
	r.goOn()
	return true
}

func (r *reader) goOn() {
	r.tokens = append(r.tokens, r.next)
	r.next = tokenFrom(r.text, r.next.end())
}
