package book

import (
	"iter"
	"strconv"

	"hailstone/api"
)

// modulo is one more than the greatest check.
const modulo = 9949

// digits are those of a check.
type digits [4]byte

// head is what a record has before its line.
type head struct {
	check  digits
	colon  byte
	length [2]byte
	end    byte
}

// headSize is how many bytes a head has.
const headSize = 8

// headOf returns the head of the record of a line with this index.
func headOf(index int, line string) head {
	h := head{colon: ':', end: ':'}
	writeDigits(h.check[:], checkOf(index, line))
	writeDigits(h.length[:], len(line))
	return h
}

func checkOf(index int, line string) int {
	sum := 41 * (index + 1)
	for k := range len(line) {
		sum += (k + 3) * int(line[k])
	}
	return sum % modulo
}

// writeDigits fills the bytes with the last digits of the number.
func writeDigits(b []byte, n int) {
	for k := len(b) - 1; k >= 0; k-- {
		b[k] = '0' + byte(n%10)
		n /= 10
	}
}

func (h head) bytes() []byte {
	b := make([]byte, headSize)
	copy(b, h.check[:])
	b[4] = h.colon
	copy(b[5:], h.length[:])
	b[7] = h.end
	return b
}

// headIn returns the head that the first bytes are, whether they are a right one or not.
func headIn(b []byte) head {
	h := head{colon: b[4], end: b[7]}
	copy(h.check[:], b)
	copy(h.length[:], b[5:])
	return h
}

// record is a line of a file, with its head.
type record struct {
	head
	line string
}

func recordOf(index int, line string) record {
	return record{head: headOf(index, line), line: line}
}

func (r record) bytes() []byte {
	b := append(r.head.bytes(), r.line...)
	return append(b, '\n')
}

// size is how many bytes the record has, with its line feed.
func (r record) size() int { return headSize + len(r.line) + 1 }

// records yields what follows each other from the first byte on and has the shape of records. Whether their heads are right is not asked.
func records(b []byte) iter.Seq[record] {
	return func(yield func(record) bool) {
		for {
			r, found := firstRecord(b)
			if !found || !yield(r) {
				return
			}
			b = b[r.size():]
		}
	}
}

// firstRecord returns what has the shape of a record at the beginning of the bytes.
func firstRecord(b []byte) (r record, found bool) {
	if len(b) < headSize {
		return record{}, false
	}
	h := headIn(b)
	length, e := strconv.Atoi(string(h.length[:]))
	if e != nil || length < 0 || length > api.MaxBookLine || len(b) <= headSize+length || b[headSize+length] != '\n' {
		return record{}, false
	}
	return record{head: h, line: string(b[headSize : headSize+length])}, true
}
