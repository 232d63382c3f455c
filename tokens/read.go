package tokens

import "typer/api"

// Reader: a text, and its first token that has not been taken yet. It looks at no token further on, so that the first one that is wrong is the one that is told.
type Reader struct {
	text string
	Next Token
}

// refusal: what a Reader panics with. A type of its own keeps it apart from panics that are faults of the program.
type refusal struct {
	err error
}

// Whole: what read makes of a text, if it takes all of it; or api.ErrLong, *api.SyntaxError.
func Whole[T any](text string, read func(r *Reader) T) (made T, err error) {
	if len(text) > api.MaxText {
		return made, api.ErrLong
	}
	defer func() {
		switch p := recover().(type) {
		case nil:
		case refusal:
			// A read that took less than all has made something already.
			var none T
			made, err = none, p.err
		default:
			panic(p)
		}
	}()
	r := &Reader{text: text, Next: Next(text, 0)}
	made = read(r)
	if r.Next.Kind != End {
		r.Refuse()
	}
	return made, nil
}

// Refuse: the way out of however deep a place: the next token is none, or cannot stand where it does.
func (r *Reader) Refuse() {
	panic(refusal{&api.SyntaxError{At: r.Next.At}})
}

// Must: takes that sign or keyword, or refuses what stands there.
func (r *Reader) Must(text string) {
	if !r.Skips(text) {
		r.Refuse()
	}
}

// Skips: takes that sign or keyword, if it stands next. (No name or number has the text of one.)
func (r *Reader) Skips(text string) bool {
	if r.Next.Text != text {
		return false
	}
	r.Take()
	return true
}

// Take: the next token's text; the one behind it is next then.
func (r *Reader) Take() string {
	text := r.Next.Text
	r.Next = Next(r.text, r.Next.Behind())
	return text
}
