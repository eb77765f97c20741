package shell

import "unicode/utf8"

// blank parts words.
const blank = ' '

// cut parts a text at the first sign of a kind, which is left out; false, if there is none. It cuts at places, and puts no signs together: so bytes that are no sign's stay as they are.
func cut(text string, at rune) (string, string, bool) {
	for i, sign := range text {
		if sign == at {
			return text[:i], text[i+utf8.RuneLen(at):], true
		}
	}
	return text, "", false
}

// read is what a line asks for.
func read(line string) order {
	name, rest, hasConn := cut(line, blank)
	if !hasConn {
		return readBare(name)
	}
	word, text, hasText := cut(rest, blank)
	conn, ok := readConn(word)
	switch {
	case !ok:
		return other{}
	case hasText:
		return readText(name, of{conn}, text)
	}
	return readLinked(name, of{conn})
}

// readConn is the connection that a word stands for.
func readConn(word string) (int, bool) {
	if len(word) != 1 || word[0] < '0' || word[0] > '0'+lastConn {
		return 0, false
	}
	return int(word[0] - '0'), true
}

// readBare is what a line of one word asks for.
func readBare(name string) order {
	switch name {
	case "crash":
		return crash{}
	case "seals":
		return seals{}
	}
	return other{}
}

// readLinked is what a line of a connection asks for.
func readLinked(name string, o of) order {
	switch name {
	case "begin":
		return begin{o.number}
	case "come":
		return come{o}
	case "turn":
		return turn{o}
	case "give":
		return give{o}
	case "close":
		return shut{o}
	case "freeze":
		return freeze{o}
	case "heard":
		return heard{o}
	case "got":
		return got{o}
	}
	return other{}
}

// readText is what a line of a connection and a text asks for: the text must be one word.
func readText(name string, o of, text string) order {
	if _, _, isParted := cut(text, blank); isParted || text == "" {
		return other{}
	}
	switch name {
	case "say":
		return say{o, text}
	case "tell":
		return tell{o, text}
	}
	return other{}
}
