package shell

import "strings"

const (
	blank      = ' '
	noBytes    = "-" // the word that stands for no bytes
	mostDigits = 18  // of a number
	hexDigits  = "0123456789abcdef"
)

// word is a word of a line, and the place of its first byte.
type word struct {
	text string
	at   int
}

// wordsOf answers the words of a line. No letter of several bytes has a blank among them, so the line may be gone through letter by letter, also where its bytes are none.
func wordsOf(line string) []word {
	var words []word
	first := 0
	for i, letter := range line {
		if letter == blank {
			words = withWord(words, line, first, i)
			first = i + 1
		}
	}
	return withWord(words, line, first, len(line))
}

// withWord answers the words with that from the place first up to end, if there is one.
func withWord(words []word, line string, first, end int) []word {
	if first == end {
		return words
	}
	return append(words, word{line[first:end], first})
}

// numberOf answers the number that the word is, and whether it is one.
func numberOf(text string) (int, bool) {
	if len(text) > mostDigits {
		return 0, false
	}
	n := 0
	for _, digit := range text {
		if digit < '0' || digit > '9' {
			return 0, false
		}
		n = 10*n + int(digit-'0')
	}
	return n, true
}

// textOf answers the bytes that the word stands for, and whether it is a text.
func textOf(text string) ([]byte, bool) {
	if text == noBytes {
		return nil, true
	}
	var p []byte
	for text != "" {
		c, rest, ok := byteOf(text)
		if !ok {
			return nil, false
		}
		p, text = append(p, c), rest
	}
	return p, true
}

// byteOf answers the first byte that the text stands for, and what is behind it.
func byteOf(text string) (byte, string, bool) {
	if text[0] != '%' {
		return text[0], text[1:], true
	}
	if len(text) < 3 {
		return 0, "", false
	}
	high, low := strings.IndexByte(hexDigits, text[1]), strings.IndexByte(hexDigits, text[2])
	if high < 0 || low < 0 {
		return 0, "", false
	}
	return byte(16*high + low), text[3:], true
}

// told answers the word by which bytes are told; textOf of it answers them again.
func told(p []byte) string {
	switch string(p) {
	case "":
		return noBytes
	case noBytes:
		return "%2d"
	}
	var word strings.Builder
	for _, c := range p {
		if c < 0x21 || c > 0x7e || c == '%' {
			word.WriteString("%" + hexOf([]byte{c}))
		} else {
			word.WriteByte(c)
		}
	}
	return word.String()
}

// hexOf answers two digits for each byte.
func hexOf(p []byte) string {
	if len(p) == 0 {
		return noBytes
	}
	var digits strings.Builder
	for _, c := range p {
		digits.WriteByte(hexDigits[c>>4])
		digits.WriteByte(hexDigits[c&15])
	}
	return digits.String()
}
