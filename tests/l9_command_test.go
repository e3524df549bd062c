package tests

import (
	"slices"
	"strconv"
	"strings"
	"testing"

	"loop.example/treenumbers/impl"
)

// tellsNumber returns the words that print a number, and the functions that tell it.
func tellsNumber() map[string]func(string) (int, bool) {
	return map[string]func(string) (int, bool){
		"leaves": impl.TreeLeaves, "height": impl.TreeHeight, "number": impl.CodeOf, "place": impl.LevelsPlace,
		"same": impl.CountSame, "orders": impl.CountOrders, "rising": impl.CountRising, "named": impl.CountNamed,
		"paths": impl.CountPaths, "spread": impl.CountSpread, "registers": impl.StreamRegisters,
		"tops": impl.CutTops, "pieces": impl.CutPieces, "cuts": impl.CutCount, "freest": impl.CutFree, "matching": impl.CutMatch,
		"uneven": impl.PairUneven, "deep": impl.PairDeep,
	}
}

// tellsList returns the words that print a list, and the functions that tell it.
func tellsList() map[string]func(string) ([]int, bool) {
	return map[string]func(string) ([]int, bool){
		"up": impl.TreeUp, "levels": impl.LevelsOf, "wide": impl.LevelsWide, "streams": impl.StreamOrders,
		"counts": impl.StreamCounts, "centre": impl.MiddleCentre, "middle": impl.MiddleOf, "loads": impl.MiddleLoads,
	}
}

// makesTree returns the words without a rest that change the tree, and the functions that make the new one.
func makesTree() map[string]func(string) (string, bool) {
	return map[string]func(string) (string, bool){
		"plant":  func(s string) (string, bool) { return impl.TreeOf([]string{s}) },
		"turned": impl.TreeTurned, "sorted": impl.TreeSorted, "next": impl.LevelsNext, "free": impl.MiddleFree,
		"leafless": impl.CutLeaf, "pairs": impl.PairOf, "back": impl.PairBack,
	}
}

// makesTreeAt returns the words with a number as the rest that change the tree, and the functions that make the new one.
func makesTreeAt() map[string]func(string, int) (string, bool) {
	return map[string]func(string, int) (string, bool){
		"code": func(_ string, n int) (string, bool) { return impl.CodeTree(n) },
		"part": impl.TreePart, "at": impl.MiddleAt, "prune": impl.CutPrune, "turn": impl.PairTurn,
	}
}

// wordsAlone returns all words that take no rest.
func wordsAlone() []string {
	words := []string{"show"}
	for word := range tellsNumber() {
		words = append(words, word)
	}
	for word := range tellsList() {
		words = append(words, word)
	}
	for word := range makesTree() {
		words = append(words, word)
	}
	slices.Sort(words)
	return words
}

// wordsWithNumber returns all words that take a number.
func wordsWithNumber() []string {
	return []string{"code", "part", "at", "prune", "turn", "far"}
}

// wordsWithText returns all words that take a text.
func wordsWithText() []string {
	return []string{"tree", "join", "alike"}
}

// printedNumber returns what a number is printed as.
func printedNumber(n int, ok bool) string {
	if !ok {
		return "no"
	}
	return strconv.Itoa(n)
}

// printedList returns what a list is printed as.
func printedList(numbers []int, ok bool) string {
	texts := []string{}
	for _, n := range numbers {
		texts = append(texts, strconv.Itoa(n))
	}
	switch {
	case !ok:
		return "no"
	case len(numbers) == 0:
		return "-"
	}
	return strings.Join(texts, " ")
}

// printedChange returns what is printed for a change, and the tree behind it.
func printedChange(before, after string, ok bool) (string, string) {
	if !ok {
		return "no", before
	}
	return "ok", after
}

// bareLine returns what a line without a space prints, and the tree behind it.
func bareLine(tree, word string) (string, string) {
	if word == "show" {
		return tree, tree
	}
	if tell, known := tellsNumber()[word]; known {
		return printedNumber(tell(tree)), tree
	}
	if tell, known := tellsList()[word]; known {
		return printedList(tell(tree)), tree
	}
	if change, known := makesTree()[word]; known {
		after, ok := change(tree)
		return printedChange(tree, after, ok)
	}
	return "what", tree
}

// textLine returns what a line with a word that takes a text prints, and the tree behind it.
func textLine(tree, word, rest string) (string, string) {
	switch word {
	case "tree":
		return printedChange(tree, rest, impl.TreeIn(rest))
	case "join":
		joined, ok := impl.CodeJoin(tree, rest)
		return printedChange(tree, joined, ok)
	}
	if impl.TreeAlike(tree, rest) {
		return "yes", tree
	}
	return "not", tree
}

// numberLine returns what a line with a word that takes a number prints, and the tree behind it.
func numberLine(tree, word, rest string) (string, string) {
	if rest == "" || len(rest) > 4 || strings.Trim(rest, "0123456789") != "" {
		return "no", tree
	}
	n, _ := strconv.Atoi(rest)
	if word == "far" {
		return printedList(impl.MiddleFar(tree, n)), tree
	}
	after, ok := makesTreeAt()[word](tree, n)
	return printedChange(tree, after, ok)
}

// lineOf returns what a line prints, and the tree behind it.
func lineOf(tree, line string) (string, string) {
	space := strings.IndexByte(line, ' ')
	if space < 0 {
		return bareLine(tree, line)
	}
	word, rest := line[:space], line[space+1:]
	switch {
	case slices.Contains(wordsWithText(), word):
		return textLine(tree, word, rest)
	case slices.Contains(wordsWithNumber(), word):
		return numberLine(tree, word, rest)
	}
	return "what", tree
}

// outputOf returns the output of a script, as the chapter tells it line by line.
func outputOf(script string) string {
	if len(script) > 600 {
		return "too long\n"
	}
	tree, output := "()", ""
	for strings.Contains(script, "\n") {
		end := strings.IndexByte(script, '\n')
		var printed string
		printed, tree = lineOf(tree, script[:end])
		output += printed + "\n"
		script = script[end+1:]
	}
	return output + lastLine(tree)
}

// lastLine returns the line behind all others, for the tree that a script leaves.
func lastLine(tree string) string {
	return "nodes " + strconv.Itoa(strings.Count(tree, "(")) + "\n"
}

// checkOutput checks the output of a script.
func checkOutput(t *testing.T, script, want string) {
	t.Helper()
	if got := impl.Execute(script); got != want {
		t.Errorf("Execute(%q) with %d bytes returned %q instead of %q", script[:min(len(script), 650)], len(script), got, want)
	}
}

// checkLines checks what single lines print for a tree, each one in a script of its own, with the tree shown behind it.
func checkLines(t *testing.T, tree string, lines map[string]string) {
	t.Helper()
	for line, want := range lines {
		checkOutput(t, "tree "+tree+"\n"+line+"\nshow\n", "ok\n"+want+"\n"+tree+"\n"+lastLine(tree))
	}
}

// sampleLines returns lines with all words, in all the ways in which a line may be written, and others.
func sampleLines() []string {
	lines := append(wordsAlone(), "", " ", "zzz", "show ", "plant x", "tree", "code", "alike", "turn")
	for _, word := range wordsWithNumber() {
		for _, rest := range []string{"", "0", "1", "03", "x", "00001"} {
			lines = append(lines, word+" "+rest)
		}
	}
	for _, word := range wordsWithText() {
		for _, rest := range []string{"", "()", "(())", "((())())", "((()())())", "(", "() "} {
			lines = append(lines, word+" "+rest)
		}
	}
	return append(lines, "code 360", "code 5000", "code 5001", "tree "+path(9), "tree "+star(9), "tree (()(()))")
}

// sampleScripts returns scripts of complete lines: none, single ones, all pairs, and longer ones up to MaxScript bytes.
func sampleScripts() []string {
	scripts := []string{"", "\n", "\n\n\n", strings.Repeat("\n", impl.MaxScript), strings.Repeat("plant\n", 100)}
	long := ""
	for _, first := range sampleLines() {
		scripts = append(scripts, first+"\n")
		for _, second := range sampleLines() {
			scripts = append(scripts, first+"\n"+second+"\n")
			if len(long)+len(second)+1 > impl.MaxScript {
				scripts = append(scripts, long)
				long = ""
			}
			long += second + "\n"
		}
	}
	return scripts
}

// scriptsWithRoom returns the sample scripts behind which some more bytes are still no script too long, and scripts with exactly this room.
func scriptsWithRoom(room int) []string {
	scripts := slices.DeleteFunc(sampleScripts(), func(script string) bool { return len(script)+room > impl.MaxScript })
	full := "tree (()(()))\n"
	full += strings.Repeat("\n", impl.MaxScript-room-len(full))
	return append(scripts, full, strings.Repeat("x", impl.MaxScript-room-1)+"\n")
}

// splitOutput returns an output without its last line, and its last line.
func splitOutput(output string) (string, string) {
	at := strings.LastIndexByte(strings.TrimSuffix(output, "\n"), '\n') + 1
	return output[:at], output[at:]
}

func TestConstantMaxScript(t *testing.T) {
	if impl.MaxScript != 600 {
		t.Errorf("MaxScript is %d", impl.MaxScript)
	}
}

// TestScriptsWorkedOutByHand has every word of the chapter.
func TestScriptsWorkedOutByHand(t *testing.T) {
	for script, want := range map[string]string{
		"tree (()(()))\nshow\n":                         "ok\n(()(()))\nnodes 4\n",
		"tree (()(()))\nleaves\nheight\n":               "ok\n2\n2\nnodes 4\n",
		"tree (()(()))\nup\nlevels\nwide\n":             "ok\n-1 0 0 2\n0 1 1 2\n1 2 1\nnodes 4\n",
		"tree (()(()))\nnumber\nplace\n":                "ok\n6\nno\nnodes 4\n",
		"tree (()(()))\nturned\nshow\nplace\n":          "ok\nok\n((())())\n2\nnodes 4\n",
		"tree (()(()))\nsorted\nshow\nnext\nshow\n":     "ok\nok\n((())())\nok\n(()()())\nnodes 4\n",
		"code 6\nshow\nnumber\n":                        "ok\n((())())\n6\nnodes 4\n",
		"plant\nplant\nshow\nlevels\n":                  "ok\nok\n((()))\n0 1 2\nnodes 3\n",
		"join (())\njoin ((()))\nshow\nnumber\n":        "ok\nok\n((())())\n6\nnodes 4\n",
		"tree (((())))\nfree\nshow\n":                   "ok\nok\n((())())\nnodes 4\n",
		"tree (()(()))\nleafless\nshow\nleafless\n":     "ok\nok\n(())\nok\nnodes 1\n",
		"tree (()())\npairs\nshow\nback\nshow\n":        "ok\nok\n(()(()()))\nok\n(()())\nnodes 3\n",
		"tree (()(()))\npart 2\nshow\n":                 "ok\nok\n(())\nnodes 2\n",
		"tree (()(()))\nat 3\nshow\n":                   "ok\nok\n(((())))\nnodes 4\n",
		"tree (()(()))\nprune 2\nshow\n":                "ok\nok\n(())\nnodes 2\n",
		"tree ((()())())\nturn 0\nshow\n":               "ok\nok\n(()(()()))\nnodes 5\n",
		"tree (()())\nsame\norders\nrising\nnamed\n":    "ok\n2\n1\n2\n3\nnodes 3\n",
		"tree (()(()))\nsame\norders\nrising\nnamed\n":  "ok\n1\n2\n3\n24\nnodes 4\n",
		"tree (()(()))\npaths\nspread\n":                "ok\n4\n10\nnodes 4\n",
		"tree (()())\nstreams\ncounts\nregisters\n":     "ok\n2 1 1\n2 1\n2\nnodes 3\n",
		"tree (()()())\nstreams\ncounts\nregisters\n":   "ok\n2 1 1 1\n3 1\n3\nnodes 4\n",
		"tree ((()))\ncentre\nmiddle\nloads\n":          "ok\n1\n1\n2 1 2\nnodes 3\n",
		"plant\ncentre\nmiddle\nloads\n":                "ok\n0 1\n0 1\n1 1\nnodes 2\n",
		"tree (()(()))\nfar 3\nfar 0\n":                 "ok\n2 3 1 0\n0 1 1 2\nnodes 4\n",
		"tree (()(()))\ntops\npieces\ncuts\n":           "ok\n6\n10\n3\nnodes 4\n",
		"tree (()(()))\nfreest\nmatching\n":             "ok\n2\n2\nnodes 4\n",
		"tree (()()())\nfreest\nmatching\n":             "ok\n3\n1\nnodes 4\n",
		"tree ((()())())\nuneven\ndeep\n":               "ok\n1\n5\nnodes 5\n",
		"tree (()(()))\nalike ((())())\nalike (()())\n": "ok\nyes\nnot\nnodes 4\n",
		"zzz\n": "what\nnodes 1\n",
	} {
		checkOutput(t, script, want)
	}
}

// TestTheFirstTree checks what every word without a rest prints for the tree with which a script begins.
func TestTheFirstTree(t *testing.T) {
	for word, want := range map[string]string{
		"show": "()", "leaves": "1", "height": "0", "up": "-1", "levels": "0", "wide": "1", "number": "1", "place": "0",
		"same": "1", "orders": "1", "rising": "1", "named": "1", "paths": "0", "spread": "0",
		"streams": "1", "counts": "1", "registers": "1", "centre": "0", "middle": "0", "loads": "0",
		"tops": "1", "pieces": "1", "cuts": "1", "freest": "1", "matching": "0", "uneven": "0", "deep": "0",
		"turned": "ok", "sorted": "ok", "free": "ok", "pairs": "ok", "back": "ok", "next": "no", "leafless": "no",
	} {
		checkOutput(t, word+"\n", want+"\nnodes 1\n")
	}
	checkOutput(t, "plant\n", "ok\nnodes 2\n")
}

// TestWordsThatTellOfAllTrees asks all trees for all that words without a rest tell of them, and for all distances.
func TestWordsThatTellOfAllTrees(t *testing.T) {
	telling := slices.DeleteFunc(wordsAlone(), func(word string) bool { return makesTree()[word] != nil })
	for _, tree := range treesUpTo(impl.NodesMax) {
		script := "tree " + tree + "\n" + strings.Join(telling, "\n") + "\n"
		for v := range len(tree)/2 + 1 {
			script += "far " + strconv.Itoa(v) + "\n"
		}
		checkOutput(t, script+"show\n", outputOf(script+"show\n"))
	}
}

// TestWordsThatChangeAllTrees changes all trees in all ways, at all nodes and at some numbers that are none.
func TestWordsThatChangeAllTrees(t *testing.T) {
	for _, tree := range treesUpTo(impl.NodesMax) {
		set := "tree " + tree + "\n"
		for word := range makesTree() {
			checkOutput(t, set+word+"\nshow\n", outputOf(set+word+"\nshow\n"))
		}
		for word := range makesTreeAt() {
			script := ""
			for v := range len(tree)/2 + 2 {
				script += set + word + " " + strconv.Itoa(v) + "\nshow\n"
			}
			checkOutput(t, script, outputOf(script))
		}
	}
}

// TestWordsWithAllTreesAsTexts has all pairs of trees of up to 5 nodes, for the three words that take a text.
func TestWordsWithAllTreesAsTexts(t *testing.T) {
	for _, tree := range treesUpTo(5) {
		for _, other := range treesUpTo(5) {
			script := "tree " + tree + "\nalike " + other + "\njoin " + other + "\nshow\nalike " + tree + "\n"
			checkOutput(t, script, outputOf(script))
		}
	}
}

// TestAllNumbersAsCodes has all numbers of up to four digits, with all leading zeros that they may have, and with one more.
func TestAllNumbersAsCodes(t *testing.T) {
	for n := range 10000 {
		tree, ok := impl.CodeTree(n)
		for digits := strconv.Itoa(n); len(digits) <= 5; digits = "0" + digits {
			printed, after := printedChange("(())", tree, ok && len(digits) <= 4)
			checkOutput(t, "plant\ncode "+digits+"\nshow\n", "ok\n"+printed+"\n"+after+"\n"+lastLine(after))
		}
	}
}

// TestScriptsOfSampleLines holds all pairs of sample lines, and long scripts of them, against the chapter told line by line.
func TestScriptsOfSampleLines(t *testing.T) {
	for _, script := range sampleScripts() {
		checkOutput(t, script, outputOf(script))
	}
}

// TestPromise70 checks the empty script, that there is always an output, and that what follows the last newline is ignored.
func TestPromise70(t *testing.T) {
	checkOutput(t, "", "nodes 1\n")
	behind := append(sampleLines(), "tree "+path(9), "plant", "\x00", "\xff", "\r", "nodes 1", strings.Repeat("x", 100), strings.Repeat(" ", 100))
	for _, script := range []string{"", "\n", "plant\n", "plant\nshow\n", "tree (()(()))\nlevels\n", "zzz\ntree x\n", "tree " + star(9) + "\n"} {
		want := outputOf(script)
		if impl.Execute(script) == "" {
			t.Errorf("Execute(%q) returned nothing", script)
		}
		for _, line := range behind {
			checkOutput(t, script+line, want)
		}
		checkOutput(t, script+strings.Repeat("y", impl.MaxScript-len(script)), want)
	}
}

// TestPromise71 puts a line with an unknown word and one that fails behind scripts with room for both.
func TestPromise71(t *testing.T) {
	for _, script := range scriptsWithRoom(11) {
		lines, last := splitOutput(impl.Execute(script))
		checkOutput(t, script+"zzz\ntree x\n", lines+"what\nno\n"+last)
	}
}

// TestPromise72 shows the tree twice behind scripts with room for both lines.
func TestPromise72(t *testing.T) {
	for _, script := range scriptsWithRoom(10) {
		lines, last := splitOutput(impl.Execute(script))
		longer, lastToo := splitOutput(impl.Execute(script + "show\nshow\n"))
		shown := strings.Split(strings.TrimPrefix(longer, lines), "\n")
		if last != lastToo || !strings.HasPrefix(longer, lines) || len(shown) != 3 || shown[0] != shown[1] || !impl.TreeIn(shown[0]) {
			t.Errorf("Execute(%q) prints %q and %q behind %q", script, shown, lastToo, lines)
		}
	}
}

// TestPromise73 asks all trees for their codes; those of some are too great.
func TestPromise73(t *testing.T) {
	tooGreat := 0
	for _, tree := range treesUpTo(impl.NodesMax) {
		code, ok := impl.CodeOf(tree)
		if !ok {
			tooGreat++
		}
		checkOutput(t, "tree "+tree+"\nnumber\nsorted\n", "ok\n"+printedNumber(code, ok)+"\nok\n"+lastLine(tree))
	}
	if tooGreat == 0 {
		t.Errorf("all trees have a code")
	}
}

// TestPromise74 asks all trees for the numbers of their automorphisms.
func TestPromise74(t *testing.T) {
	for _, tree := range treesUpTo(impl.NodesMax) {
		same, ok := impl.CountSame(tree)
		if !ok {
			t.Errorf("CountSame(%q) failed", tree)
		}
		checkOutput(t, "tree "+tree+"\nsame\nshow\n", "ok\n"+strconv.Itoa(same)+"\n"+tree+"\n"+lastLine(tree))
	}
}

// TestScriptsAtTheLimit has scripts of exactly MaxScript bytes, of one less and of one more, and very long ones.
func TestScriptsAtTheLimit(t *testing.T) {
	full := strings.Repeat("show\n", impl.MaxScript/5)
	checkOutput(t, full, strings.Repeat("()\n", impl.MaxScript/5)+"nodes 1\n")
	checkOutput(t, full[:impl.MaxScript-1], strings.Repeat("()\n", impl.MaxScript/5-1)+"nodes 1\n")
	checkOutput(t, strings.Repeat("\n", impl.MaxScript), strings.Repeat("what\n", impl.MaxScript)+"nodes 1\n")
	checkOutput(t, strings.Repeat("x", impl.MaxScript), "nodes 1\n")
	checkOutput(t, strings.Repeat("x", impl.MaxScript-1)+"\n", "what\nnodes 1\n")
	checkOutput(t, "tree "+strings.Repeat("(", impl.MaxScript-6)+"\n", "no\nnodes 1\n")
	checkOutput(t, "code "+strings.Repeat("0", impl.MaxScript-7)+"6\n", "no\nnodes 1\n")
	// The number of bytes counts, not that of signs: each of these has three.
	checkOutput(t, strings.Repeat("木", impl.MaxScript/3), "nodes 1\n")
	for _, script := range []string{
		full + "\n", full + "x", full + full, strings.Repeat("\n", impl.MaxScript+1), strings.Repeat("x", impl.MaxScript+1), strings.Repeat("木", impl.MaxScript/3+1),
		"plant\n" + strings.Repeat("x", impl.MaxScript), strings.Repeat("show\n", 1<<20), strings.Repeat("x", 1<<22), "tree " + path(1<<20) + "\n",
	} {
		checkOutput(t, script, "too long\n")
	}
}

func TestLastLinesWithoutANewline(t *testing.T) {
	for script, want := range map[string]string{
		"plant": "nodes 1\n", "show": "nodes 1\n", "zzz": "nodes 1\n", " ": "nodes 1\n", "tree (())": "nodes 1\n",
		"plant\nplant": "ok\nnodes 2\n", "plant\nshow": "ok\nnodes 2\n", "plant\n ": "ok\nnodes 2\n", "plant\ntree (": "ok\nnodes 2\n",
		"plant\nshow\nleafless": "ok\n(())\nnodes 2\n", "zzz\nzzz": "what\nnodes 1\n",
	} {
		checkOutput(t, script, want)
	}
}

func TestEmptyLines(t *testing.T) {
	for script, want := range map[string]string{
		"\n": "what\nnodes 1\n", "\n\n": "what\nwhat\nnodes 1\n", "\nplant\n\nshow\n": "what\nok\nwhat\n(())\nnodes 2\n",
		" \n": "what\nnodes 1\n", "  \n": "what\nnodes 1\n", "plant\n\n": "ok\nwhat\nnodes 2\n",
	} {
		checkOutput(t, script, want)
	}
}

// TestWordsThatTakeNoRest puts spaces and rests behind them: each of these lines is another one, and changes nothing.
func TestWordsThatTakeNoRest(t *testing.T) {
	for _, tree := range []string{"()", "(()(()))", "(()())"} {
		for _, word := range wordsAlone() {
			lines := map[string]string{" " + word: "what", "  " + word + " ": "what"}
			for _, rest := range []string{" ", "  ", " 0", " 1", " ()", " x", " " + word} {
				lines[word+rest] = "what"
			}
			checkLines(t, tree, lines)
		}
	}
}

// TestWordsThatTakeANumber leaves the rest out, and writes it in many ways in which it is no number.
func TestWordsThatTakeANumber(t *testing.T) {
	for _, word := range wordsWithNumber() {
		lines := map[string]string{word: "what", " " + word: "what", " " + word + " 1": "what", word + "1": "what", word + "\t1": "what"}
		for _, rest := range []string{
			"", " ", "  ", " 1", "1 ", " 1 ", "  1", "1  ", "1 1", "\t1", "1\t", "1\r", "1\x00", "\x001",
			"00001", "00000", "10000", "12345", "99999", "000000001", "1_0", "1,0", "1.0", "1.", ".1", "1e1", "0x1", "0b1", "0o1",
			"+1", "-1", "-0", "+0", "--1", "1-", "1+", "+", "-", "a", "one", "x1", "1x", "()", "1()", "١", "１", "²", "/", ":", "1/", "1:", "\xff",
			"18446744073709551617", "4294967297", strings.Repeat("1", 500),
		} {
			lines[word+" "+rest] = "no"
		}
		checkLines(t, "((()())())", lines)
	}
}

// TestNumbersWithLeadingZeros writes one number in all ways, for all words that take one.
func TestNumbersWithLeadingZeros(t *testing.T) {
	for _, e := range []struct{ tree, word, want string }{
		{"(()(()))", "code", "(())"}, {"(()(()))", "part", "(())"}, {"(()(()))", "at", "((())())"}, {"(()(()))", "prune", "(())"},
		{"(()((()())()))", "turn", "(()(()(()())))"},
	} {
		for _, number := range []string{"2", "02", "002", "0002"} {
			checkOutput(t, "tree "+e.tree+"\n"+e.word+" "+number+"\nshow\n", "ok\nok\n"+e.want+"\n"+lastLine(e.want))
			checkLines(t, "(()(()))", map[string]string{"far " + number: "1 2 0 1"})
		}
		checkLines(t, e.tree, map[string]string{e.word + " 00002": "no", "far 00002": "no"})
	}
	checkLines(t, "(())", map[string]string{"far 0000": "0 1", "code 0000": "no", "prune 0000": "no", "part 0000": "ok", "at 0000": "ok"})
}

// TestNumbersOfNoNodeAndNoCode has numbers that are written as told, for which the words fail.
func TestNumbersOfNoNodeAndNoCode(t *testing.T) {
	tree := "((()())())"
	lines := map[string]string{"code 0": "no", "code 5000": "no", "code 5001": "no", "code 9999": "no", "prune 0": "no", "turn 1": "no", "turn 4": "no"}
	for _, word := range []string{"part", "at", "prune", "turn", "far"} {
		for _, number := range []string{"5", "05", "0005", "6", "9", "10", "100", "9999"} {
			lines[word+" "+number] = "no"
		}
	}
	checkLines(t, tree, lines)
}

// TestWordsThatTakeAText leaves the text out, and has spaces ahead of it and behind it, and texts that are no trees.
func TestWordsThatTakeAText(t *testing.T) {
	rests := []string{" ()", "() ", " () ", "  ()", "()  ", " ", "  ", "( )", "()()", "x", "0", "()\r", "\t()", "()\x00", "tree", "() ()"}
	rests = append(rests, slices.DeleteFunc(notTrees(), func(s string) bool { return len(s) > 100 || strings.Contains(s, "\n") })...)
	for word, want := range map[string]string{"tree": "no", "join": "no", "alike": "not"} {
		lines := map[string]string{word: "what", " " + word: "what", " " + word + " ()": "what", word + "()": "what", word + "\t()": "what"}
		for _, rest := range rests {
			lines[word+" "+rest] = want
		}
		checkLines(t, "(()(()))", lines)
		checkLines(t, "()", lines)
	}
}

// TestTextsWithANewline has texts with a newline in them: what is behind it is a line of its own.
func TestTextsWithANewline(t *testing.T) {
	checkOutput(t, "tree (\n)\n", "no\nwhat\nnodes 1\n")
	checkOutput(t, "tree (())\n()\n", "ok\nwhat\nnodes 2\n")
	checkOutput(t, "alike ()\n\n", "yes\nwhat\nnodes 1\n")
}

// TestWordsThatFail has all words that fail for a tree, which stays as it is.
func TestWordsThatFail(t *testing.T) {
	// No word makes a tree with more than NodesMax nodes.
	for _, tree := range []string{path(9), star(9), "(()(()(()(()()))))", "((()(()))(()(())))"} {
		checkLines(t, tree, map[string]string{"plant": "no", "pairs": "no", "join (())": "no", "join ((()))": "no", "join " + tree: "no"})
	}
	for _, tree := range []string{path(5), star(5)} {
		checkLines(t, tree, map[string]string{"join " + path(6): "no", "join " + star(6): "no", "join " + path(9): "no"})
		checkOutput(t, "tree "+tree+"\njoin "+path(5)+"\n", "ok\nok\nnodes 9\n")
	}
	checkLines(t, path(6), map[string]string{"pairs": "no"})
	checkOutput(t, "tree "+path(5)+"\npairs\n", "ok\nok\nnodes 9\n")
	checkOutput(t, "tree "+path(8)+"\nplant\nplant\nshow\n", "ok\nok\nno\n"+path(9)+"\nnodes 9\n")
	// No code, no place, and none behind it.
	checkLines(t, path(9), map[string]string{"number": "no", "place": "no", "rising": "1"})
	checkLines(t, star(9), map[string]string{"number": "256", "place": "no", "next": "no"})
	checkLines(t, path(8), map[string]string{"number": "709", "place": "0"})
	checkLines(t, star(8), map[string]string{"number": "128", "place": "114", "next": "no"})
	checkLines(t, "(()(()))", map[string]string{"place": "no", "next": "no"})
	checkLines(t, "()", map[string]string{"next": "no", "leafless": "no", "prune 0": "no", "turn 0": "no"})
	// No trees of pairs.
	for _, tree := range []string{"(())", "(()()())", "((())())", "((()()())())", path(9), star(9)} {
		checkLines(t, tree, map[string]string{"uneven": "no", "deep": "no", "back": "no", "turn 0": "no", "turn 1": "no"})
	}
}

// checkOther checks that a line is none that the chapter tells.
func checkOther(t *testing.T, line string) {
	t.Helper()
	checkOutput(t, "plant\n"+line+"\nshow\n", "ok\nwhat\n(())\nnodes 2\n")
}

func TestUnknownWords(t *testing.T) {
	for _, word := range []string{
		"zzz", "nodes", "children", "reach", "widest", "exit", "help", "ok", "no", "what", "yes", "not", "()", "0", "-", "too long", "center", "nodes 1",
		"treein", "TreeIn", "Show", "SHOW", "sHOW", "show;", "show\r", "show\t", "\tshow", "\rshow", "show\x00", "\x00show", "show\v", "show\u00a0", "\ufeffshow",
		"plant\r", "plant,plant", "plantplant", "show\u2028", "木", "\xff\xfe", "\x00", "\r", "\t", "\r\r",
	} {
		checkOther(t, word)
		checkOther(t, word+" ")
		checkOther(t, word+" ()")
		checkOther(t, word+" 1")
	}
}

// TestWordsWrittenInOtherWays writes all words with capitals, cut short, with one more byte and twice, with and without a rest.
func TestWordsWrittenInOtherWays(t *testing.T) {
	known := slices.Concat(wordsAlone(), wordsWithNumber(), wordsWithText())
	for _, word := range known {
		others := []string{strings.ToUpper(word), strings.ToUpper(word[:1]) + word[1:], word[1:], word[:len(word)-1], word + word, word + "s", "x" + word, word + "\r", "\t" + word}
		for _, other := range others {
			if !slices.Contains(known, other) {
				checkOther(t, other)
				checkOther(t, other+" ")
				checkOther(t, other+" 1")
				checkOther(t, other+" (())")
			}
		}
	}
}

// TestLinesOfAllBytes has all lines of up to two bytes, and each byte ahead of a line and behind it.
func TestLinesOfAllBytes(t *testing.T) {
	for first := range 256 {
		for second := range 256 {
			line := string([]byte{byte(first), byte(second)})
			if !strings.Contains(line, "\n") && line != "up" {
				checkOther(t, line)
			}
		}
		other := string([]byte{byte(first)})
		for _, script := range []string{other + "\n", other + "show\n", "show" + other + "\n", "part 0" + other + "\nshow\n", "tree (())" + other + "\nshow\n", "alike ()" + other + "\n"} {
			checkOutput(t, script, outputOf(script))
		}
	}
}

// TestScriptsKeepNothing runs a script behind another one: it begins with the node alone.
func TestScriptsKeepNothing(t *testing.T) {
	checkOutput(t, "tree (()(()))\n", "ok\nnodes 4\n")
	checkOutput(t, "show\n", "()\nnodes 1\n")
	checkOutput(t, "", "nodes 1\n")
}

// TestLinesFollowEachOther has a line that fails, or is none, between lines that change the tree.
func TestLinesFollowEachOther(t *testing.T) {
	checkOutput(t, "plant\ntree (\nplant\nzzz\nplant\ncode 99999\nplant\nshow\n", "ok\nno\nok\nwhat\nok\nno\nok\n"+path(5)+"\nnodes 5\n")
}
