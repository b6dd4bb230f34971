// Package quill appends numbers and byte strings to a byte slice in a binary
// encoding, and decodes them again. It is layer 1: see shared/doc/01-quill.md.
package quill

import (
	"strings"

	"padlock/api"
)

const (
	maxSize  = 8 // bytes of a number, at most
	headSize = 2 // bytes of a row's length
)

// Scan is a decoder: the text, the offset of its next byte, and the first error.
type Scan struct {
	Text string
	At   int
	Bad  api.Errno
}

// Num returns a copy of b followed by the encoding of n.
func Num(b []byte, size int, n uint64) []byte {
	if !isSize(size) {
		return copyOf(b, 0)
	}
	return addNum(copyOf(b, size), size, n)
}

// Row returns a copy of b followed by the row of s.
func Row(b []byte, s string) ([]byte, api.Errno) {
	if len(s) > api.MaxRow {
		return nil, api.ErrLong
	}
	return addRow(copyOf(b, headSize+len(s)), s), api.OK
}

// Rows returns the rows of all elements of l, one after the other.
func Rows(l ...string) ([]byte, api.Errno) {
	if len(l) > api.MaxRows {
		return nil, api.ErrMany
	}
	size := 0
	for _, s := range l {
		if len(s) > api.MaxRow {
			return nil, api.ErrLong
		}
		size += headSize + len(s)
	}
	b := make([]byte, 0, size)
	for _, s := range l {
		b = addRow(b, s)
	}
	return b, api.OK
}

// Num decodes a number.
func (s Scan) Num(size int) (uint64, Scan) {
	if s.Bad != api.OK {
		return 0, s
	}
	if !s.valid() || !isSize(size) {
		return 0, s.fail(api.ErrArg)
	}
	if s.left() < size {
		return 0, s.fail(api.ErrShort)
	}
	var n uint64
	for range size {
		n = n<<8 | uint64(s.Text[s.At])
		s.At++
	}
	return n, s
}

// Row decodes a row.
func (s Scan) Row() (string, Scan) {
	length, body := s.Num(headSize)
	if body.Bad != api.OK {
		return "", body
	}
	if body.left() < int(length) {
		// The row as a whole is short, so the offset stays before its length.
		return "", s.fail(api.ErrShort)
	}
	end := body.At + int(length)
	row := body.cut(end)
	body.At = end
	return row, body
}

// Rest returns the bytes that are not decoded yet.
func (s Scan) Rest() string {
	if s.Bad != api.OK || !s.valid() {
		return ""
	}
	return s.cut(len(s.Text))
}

// End reports whether everything was decoded.
func (s Scan) End() api.Errno {
	switch {
	case s.Bad != api.OK:
		return s.Bad
	case !s.valid():
		return api.ErrArg
	case s.left() > 0:
		return api.ErrForm
	}
	return api.OK
}

// Split returns the rows of which s consists.
func Split(s string) ([]string, api.Errno) {
	var rows []string
	scan := Scan{Text: s}
	for scan.left() > 0 {
		if len(rows) == api.MaxRows {
			return nil, api.ErrMany
		}
		var row string
		row, scan = scan.Row()
		if scan.Bad != api.OK {
			return nil, scan.Bad
		}
		rows = append(rows, row)
	}
	return rows, api.OK
}

func isSize(size int) bool { return size >= 1 && size <= maxSize }

// copyOf copies b with room for more bytes: appending to b itself would write
// into spare capacity that belongs to the caller.
func copyOf(b []byte, more int) []byte {
	return append(make([]byte, 0, len(b)+more), b...)
}

func addNum(b []byte, size int, n uint64) []byte {
	for i := size - 1; i >= 0; i-- {
		b = append(b, byte(n>>(8*i)))
	}
	return b
}

func addRow(b []byte, s string) []byte {
	return append(addNum(b, headSize, uint64(len(s))), s...)
}

func (s Scan) valid() bool { return s.At >= 0 && s.At <= len(s.Text) }

// left counts the bytes that are not decoded yet; the offset must be valid.
func (s Scan) left() int { return len(s.Text) - s.At }

// cut returns the bytes up to end as a text of its own, so that a short one
// does not keep the whole of Text in memory.
func (s Scan) cut(end int) string { return strings.Clone(s.Text[s.At:end]) }

func (s Scan) fail(bad api.Errno) Scan {
	s.Bad = bad
	return s
}
