package types

import "strconv"

// naming: how variables are called in texts. It is asked in the order in which they stand.
type naming struct {
	any func(name string) string // one that stands for any type, by its own name
	own func(number int) string  // one that stands for itself alone, by its cell's number
}

// OneText: the one text of a type.
func OneText(t Type) string { return draftOf(t, naming{any: letters[string]("")}).text() }

// OwnText: as the one text is, but with the type's own names for its variables.
func OwnText(t Type) string {
	return draftOf(t, naming{any: func(name string) string { return name }}).text()
}

// Texts: those of schemes that are told together: what stands for any type is called anew in each, what stands for itself alone is the same in all. False: they would have more than so many bytes, all together; none is written then.
func Texts(schemes []Scheme, most int64) ([]string, bool) {
	own := letters[int]("_")
	var drafts []*draft
	for _, s := range schemes {
		d := draftOf(s.Type, naming{any: letters[string](""), own: own})
		if d.length > most {
			return nil, false
		}
		most -= d.length
		drafts = append(drafts, d)
	}
	var texts []string
	for _, d := range drafts {
		texts = append(texts, d.text())
	}
	return texts, true
}

// letters: a, b and so on, behind a mark, in the order in which they are asked for.
func letters[K comparable](mark string) func(key K) string {
	number := inOrder[K]()
	return func(key K) string { return mark + nthName(number(key)) }
}

// inOrder: numbers keys, from 0 on, in the order in which they are first asked for.
func inOrder[K comparable]() func(key K) int {
	numbers := map[K]int{}
	return func(key K) int {
		n, known := numbers[key]
		if !known {
			n = len(numbers)
			numbers[key] = n
		}
		return n
	}
}

// nthName: a, b, .., z, a1, .., z1, a2 and so on, from 0 on.
func nthName(n int) string {
	const letters = 26
	letter := string(rune('a' + n%letters))
	if n < letters {
		return letter
	}
	return letter + strconv.Itoa(n/letters)
}
