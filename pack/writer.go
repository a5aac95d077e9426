package pack

// Writer is chapter 2's.
type Writer struct {
	kept *written
	size int // how many of what is kept are this Writer's
}

// written is what a Writer has written; copies of the Writer look at it too.
type written struct{ bytes []byte }

// Num is chapter 2's.
func (w *Writer) Num(v uint64, bytes int) {
	if !wide(bytes) {
		return
	}
	var text [mostBytes]byte
	for i := range bytes {
		text[i] = byte(v >> (8 * (bytes - 1 - i)))
	}
	w.Raw(text[:bytes])
}

// Text is chapter 2's.
func (w *Writer) Text(b []byte) {
	w.Num(uint64(len(b)), lengthSize)
	w.Raw(b)
}

// Raw is chapter 2's.
func (w *Writer) Raw(b []byte) {
	if w == nil {
		return
	}
	w.part()
	w.kept.bytes = append(w.kept.bytes, b...)
	w.size += len(b)
}

// Bytes is chapter 2's.
func (w *Writer) Bytes() []byte {
	if w == nil || w.size == 0 {
		return nil
	}
	return append([]byte(nil), w.kept.bytes[:w.size]...)
}

// part gives the Writer bytes of its own where it has none, or where a copy of it has gone on in the same ones.
func (w *Writer) part() {
	if w.kept == nil || len(w.kept.bytes) != w.size {
		w.kept = &written{bytes: w.Bytes()}
	}
}
