package terminal

import (
	"strconv"
	"strings"

	"bushel/api"
)

// phrase returns words with a blank between two of them.
func phrase(words ...string) string { return strings.Join(words, " ") }

// wordsOf returns the words of a text that has one blank between two of them, and false for any other text.
func wordsOf(text string) ([]string, bool) {
	words := strings.Split(text, " ")
	return words, areAll(words, func(word string) bool { return word != "" })
}

// lines returns a text of lines.
func lines(l ...string) string {
	var text strings.Builder
	for _, line := range l {
		text.WriteString(line)
		text.WriteByte('\n')
	}
	return text.String()
}

// texts returns the texts of the elements of a list.
func texts[T any](l []T, textOf func(T) string) []string {
	var result []string
	for _, x := range l {
		result = append(result, textOf(x))
	}
	return result
}

// readInteger returns the integer of at most 9 digits that a word is.
func readInteger(word string) (int, bool) {
	n, err := strconv.Atoi(word)
	// Signs and zeros in front are read, but not written.
	return n, err == nil && n >= 0 && n <= api.MaxNumber && strconv.Itoa(n) == word
}

// readIntegers returns the integers that words are, and false if one of them is none.
func readIntegers(words []string) ([]int, bool) {
	var l []int
	for _, word := range words {
		n, isInteger := readInteger(word)
		if !isInteger {
			return nil, false
		}
		l = append(l, n)
	}
	return l, true
}
