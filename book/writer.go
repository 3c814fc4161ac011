package book

import "cairn/api"

// writer has a book open: its texts, and the name of each.
type writer struct {
	texts []string
	names map[string]int
}

// open copies a book, text by text, so that what was handed in stays as it is.
func open(b api.Book) (*writer, api.Errno) {
	if len(b.Texts) > api.MaxBook {
		return nil, api.ErrMany
	}
	w := &writer{names: make(map[string]int, len(b.Texts))}
	for _, s := range b.Texts {
		if len(s) > api.MaxText {
			return nil, api.ErrMany
		}
		if w.names[s] != 0 {
			return nil, api.ErrTwice
		}
		w.add(s)
	}
	return w, api.OK
}

// name finds the name of a text, or gives it the next one.
func (w *writer) name(s string) (int, api.Errno) {
	if len(s) > api.MaxText {
		return 0, api.ErrMany
	}
	// Names begin at 1, so that 0 is the name of no text.
	if n := w.names[s]; n != 0 {
		return n, api.OK
	}
	if len(w.texts) == api.MaxBook {
		return 0, api.ErrFull
	}
	return w.add(s), api.OK
}

func (w *writer) add(s string) int {
	w.texts = append(w.texts, s)
	w.names[s] = len(w.texts)
	return len(w.texts)
}
