package tests

import (
	"slices"
	"strings"
)

// Changes of lines and texts, for those that are almost right.

// textWordList has words that stand in lines, and some that are near to one.
func textWordList() []string {
	return []string{"0", "1", "2", "00", "-0", "-1", "+1", "4294967295", "4294967296", "i32", "i64", "f32", "f64", "i33", "->", "func", "table", "memory", "global", "const", "var", "end", "else", "if", "block", "nop", "code", "custom", "type", "start",
		"elem", "data", "import", "export", `""`, `"a"`, `"a b"`, `"\22"`, `"\41"`, `"\5C"`, `"\ff"`, `"\c3\a9"`, `"`, "", "br_table", "i32.const", "i64.const", "f32.const", "0x00000000", "2147483647", "2147483648", "-2147483648"}
}

// changedLine has one word or one byte that is another, one more, or one less.
func (k maker) changedLine(line string) string {
	words := strings.Split(line, " ")
	place := k.Intn(len(words))
	switch k.Intn(6) {
	case 0:
		words[place] = pick(k, textWordList())
	case 1:
		words = slices.Insert(words, place, pick(k, textWordList()))
	case 2:
		words = slices.Delete(words, place, place+1)
	case 3:
		words = append(words, pick(k, textWordList()))
	case 4:
		words[place] = k.changedWord(words[place])
	case 5:
		words = slices.Insert(words, place, words[place])
	}
	return strings.Join(words, " ")
}

func (k maker) changedWord(word string) string {
	if word == "" {
		return "0"
	}
	b := []byte(word)
	place := k.Intn(len(b))
	some := []byte("0123456789abcdefABCDEF\"\\ \t\n-+>x._\x00\x7f\x80\xff")
	switch k.Intn(4) {
	case 0:
		b[place] = pick(k, some)
	case 1:
		b = slices.Insert(b, place, pick(k, some))
	case 2:
		b = slices.Delete(b, place, place+1)
	case 3:
		b[place] += pick(k, []byte{1, 0xff})
	}
	return string(b)
}

// changedText has lines that are others, more, fewer, or in another order.
func (k maker) changedText(text string) string {
	lines := strings.SplitAfter(text, "\n")
	place, other := k.Intn(len(lines)), k.Intn(len(lines))
	switch k.Intn(7) {
	case 0, 1, 2:
		line, ended := strings.CutSuffix(lines[place], "\n")
		lines[place] = k.changedLine(line)
		if ended {
			lines[place] += "\n"
		}
	case 3:
		lines = slices.Delete(lines, place, place+1)
	case 4:
		lines = slices.Insert(lines, place, lines[other])
	case 5:
		lines[place], lines[other] = lines[other], lines[place]
	case 6:
		extra := []string{"\n", "end\n", "else\n", "nop\n", "if\n", "code\n", "func 0\n", "start 0\n", "custom 0 \"\" \"\"\n", "custom 3 \"\" \"\"\n", "custom 10 \"\" \"\"\n", "type ->\n", "data \"\"\n", "end", " "}
		lines = slices.Insert(lines, place, pick(k, extra))
	}
	return strings.Join(lines, "")
}
