package tests

import (
	"slices"
	"strconv"
	"strings"
	"testing"

	"loop.example/vectorstore/impl"
)

// vectorWord returns a vector as a word of a line.
func vectorWord(at []int) string {
	words := make([]string, 0, len(at))
	for _, c := range at {
		words = append(words, strconv.Itoa(c))
	}
	return strings.Join(words, ",")
}

// putLine returns the line that puts an item.
func putLine(x impl.Item) string {
	return "put " + strconv.Itoa(x.Key) + " " + vectorWord(x.At) + " " + strconv.Itoa(x.Tags)
}

// dropLine returns the line that drops the item with a key.
func dropLine(key int) string {
	return "drop " + strconv.Itoa(key)
}

// nearLine returns the line that asks for the items that are nearest to a vector.
func nearLine(at []int, k int) string {
	return "near " + vectorWord(at) + " " + strconv.Itoa(k)
}

// kindLine returns the line that chooses a kind of distances.
func kindLine(kind int) string {
	return "kind " + strconv.Itoa(kind)
}

// putLines returns the lines that put the items of a store.
func putLines(list []impl.Item) []string {
	var out []string
	for _, x := range list {
		out = append(out, putLine(x))
	}
	return out
}

// hitLine returns what is printed for hits.
func hitLine(hits []impl.Hit) string {
	words := make([]string, 0, len(hits))
	for _, h := range hits {
		words = append(words, strconv.Itoa(h.Key)+":"+strconv.Itoa(h.Dist))
	}
	return strings.Join(words, " ")
}

// printed returns lines as they are printed, each with a newline behind it.
func printed(lines ...string) string {
	var out strings.Builder
	for _, line := range lines {
		out.WriteString(line + "\n")
	}
	return out.String()
}

// checkSession tells if a session prints other lines than wanted.
func checkSession(t *testing.T, lines []string, want ...string) {
	t.Helper()
	if got := impl.RunSession(lines); got != printed(want...) {
		t.Errorf("RunSession(%q) = %q, not %q", lines, got, printed(want...))
	}
}

// exchange is a line and what is printed for it.
type exchange struct{ line, out string }

// checkExchanges tells if a session prints something else for some lines behind others, each alone, or if it prints something else for count and near behind them.
func checkExchanges(t *testing.T, before []string, now []impl.Item, each ...exchange) {
	t.Helper()
	first := impl.RunSession(before)
	for _, e := range each {
		lines := append(slices.Clone(before), e.line, "count", "near 0,0,0,0 16")
		want := printed(e.out, strconv.Itoa(len(now)), hitLine(wantHits(now, impl.DistSum, flat(0))))
		if got := impl.RunSession(lines); got != first+want {
			t.Errorf("RunSession(%q) = %q, not %q behind the first lines", lines, got, want)
		}
	}
}

// allNumbers has all words that are numbers, with the numbers.
var allNumbers = wantNumbers()

// wantNumbers returns all words that are numbers, with the numbers.
func wantNumbers() map[string]int {
	out := map[string]int{}
	for n := -999; n <= 9999; n++ {
		out[strconv.Itoa(n)] = n
	}
	return out
}

// plainSession executes lines one by one by what is known of numbers, items and hits.
type plainSession struct {
	items map[int]impl.Item
	kind  int
}

// wantSession returns what lines print.
func wantSession(lines []string) string {
	s := plainSession{items: map[int]impl.Item{}, kind: impl.DistSum}
	var out []string
	for _, line := range lines[:min(len(lines), 20)] {
		out = append(out, s.print(strings.Split(line, " ")))
	}
	return printed(out...)
}

// print returns what the words of a line print.
func (s *plainSession) print(words []string) string {
	switch {
	case words[0] == "put" && len(words) == 4:
		return s.put(words[1], words[2], words[3])
	case words[0] == "drop" && len(words) == 2:
		key, number := allNumbers[words[1]]
		_, there := s.items[key]
		delete(s.items, key)
		return yes(number && there)
	case words[0] == "near" && len(words) == 3:
		return s.near(words[1], words[2])
	case words[0] == "kind" && len(words) == 2:
		kind := allNumbers[words[1]]
		if kind >= 1 && kind <= 4 {
			s.kind = kind
		}
		return yes(kind >= 1 && kind <= 4)
	case words[0] == "pair" && len(words) == 1:
		return s.pair()
	case words[0] == "count" && len(words) == 1:
		return strconv.Itoa(len(s.items))
	}
	return "what"
}

// yes returns ok or no.
func yes(ok bool) string {
	if ok {
		return "ok"
	}
	return "no"
}

// wantVector returns the vector that a word is, and whether it is a valid one.
func wantVector(word string) ([]int, bool) {
	var at []int
	for _, part := range strings.Split(word, ",") {
		c, number := allNumbers[part]
		if !number || c < -100 || c > 100 {
			return nil, false
		}
		at = append(at, c)
	}
	return at, len(at) == 4
}

// put puts an item if that is possible.
func (s *plainSession) put(key string, at string, tags string) string {
	v, ok := wantVector(at)
	x := item(allNumbers[key], v, allNumbers[tags])
	_, there := s.items[x.Key]
	_, tagged := allNumbers[tags]
	if !ok || !tagged || x.Key < 1 || x.Key > 99 || x.Tags < 0 || x.Tags > 15 || !there && len(s.items) == 16 {
		return "no"
	}
	s.items[x.Key] = x
	return "ok"
}

// near returns the hits of a search.
func (s *plainSession) near(at string, k string) string {
	v, ok := wantVector(at)
	many := allNumbers[k]
	if !ok || many < 1 || many > 16 {
		return "no"
	}
	hits := wantHits(inKeyOrder(s.items), s.kind, v)
	return hitLine(hits[:min(many, len(hits))])
}

// pair returns the keys of the two items with the least distance, the first such pair in order of the keys.
func (s *plainSession) pair() string {
	best, out := 1<<30, "no"
	for _, x := range inKeyOrder(s.items) {
		for _, y := range inKeyOrder(s.items) {
			dist := impl.Distance(s.kind, x.At, y.At)
			if x.Key < y.Key && dist < best {
				best, out = dist, strconv.Itoa(x.Key)+" "+strconv.Itoa(y.Key)
			}
		}
	}
	return out
}

// oddWords returns words that are no numbers or are out of range, or nearly so.
func oddWords() []string {
	return []string{"", "-", "+", "+1", "-0", "00", "01", "-01", "1.", "1e1", "0x1", "1_0", "x", "-1", "0", "16", "17", "99", "100", "101", "-100", "-101", "999", "9999", "-999", "-1000", "10000", "0001", "00001", "+001", "1,", "1\n", "\t1"}
}

// oddVectors returns words that are no valid vectors, or nearly so.
func oddVectors() []string {
	out := []string{"", ",", ",,,", "1", "1,2", "1,2,3", "1,2,3,4,5", "1,2,3,4,", ",1,2,3,4", ",1,2,3", "1,,2,3", "1,2,3,", "1;2;3;4", "1.2.3.4", "100,100,100,100", "-100,-100,-100,-100", "(1,2,3,4)", "1,2,3,4,5,6,7,8"}
	for _, word := range oddWords() {
		out = append(out, word+",0,0,0", "0,0,"+word+",0", "0,0,0,"+word)
	}
	return out
}

// spreadLine returns a line: most of the time a command, of few keys and with small coordinates, and otherwise nearly one.
func spreadLine(number func(low int, high int) int) string {
	at := vectorWord(vec(number(-3, 3), number(-3, 3), number(-100, 100), 0))
	pick := func(words []string) string {
		return words[number(0, len(words)-1)]
	}
	switch choice := number(0, 19); {
	case choice < 7:
		return "put " + strconv.Itoa(number(1, 20)) + " " + at + " " + strconv.Itoa(number(0, 15))
	case choice < 9:
		return dropLine(number(1, 20))
	case choice < 12:
		return "near " + at + " " + strconv.Itoa(number(1, 16))
	case choice < 13:
		return kindLine(number(1, 4))
	case choice < 15:
		return pick([]string{"pair", "count"})
	case choice < 16:
		return pick([]string{"put", "near"}) + " " + pick(oddWords()) + " " + pick(oddVectors()) + " " + pick(oddWords())
	case choice < 17:
		return "near " + pick(oddVectors()) + " " + pick(oddWords())
	case choice < 18:
		return pick([]string{"drop", "kind", "Kind", "count", "drop "}) + " " + pick(oddWords())
	}
	return pick(oddLines())
}

// oddLines returns lines that are no commands, most of them nearly.
func oddLines() []string {
	out := []string{"", " ", "  ", "help", "what", "ok", "no", "\n", "1", "-1", "count\n", "\ncount", "count\x00", "count\r", "\tcount", "pair\t", "counts", "coun", "c", "get 1", "put1 1,2,3,4 1", "near0,0,0,0 1", "drop1", "kind1", "put\t1\t1,2,3,4\t1", "put,1,1,2,3,4,1", "near 0, 0, 0, 0 1", "near 0 0 0 0 1", "put 1 1, 2, 3, 4 1", "put 1 1 2 3 4 1", "count count", "pair pair", "count;pair", "\xff", "ｃount"}
	for _, line := range []string{"put 1 1,2,3,4 5", "drop 5", "near 5,5,5,5 2", "kind 2", "pair", "count"} {
		words := strings.Split(line, " ")
		name, rest := words[0], strings.TrimPrefix(line, words[0])
		out = append(out, " "+line, line+" ", line+"  ", line+" 1", line+" x", "  "+line,
			strings.ToUpper(name)+rest, strings.ToUpper(name[:1])+name[1:]+rest, name[:1]+strings.ToUpper(name[1:])+rest,
			name[:len(name)-1]+rest, name+name[:1]+rest, "x"+name+rest, name[1:]+rest, name+","+rest)
		if len(words) > 1 {
			out = append(out, name, strings.Join(words[:len(words)-1], " "), strings.Join(words, "  "), strings.Join(words, "\t"), strings.Join(words, ""), name+" "+rest)
		}
	}
	return out
}

// spreadSession returns as many lines as a number tells.
func spreadSession(seed uint64, size int) []string {
	number := numbers(seed)
	out := make([]string, 0, size)
	for range size {
		out = append(out, spreadLine(number))
	}
	return out
}

// sampleSessions returns lines of sessions: none, one, as many as are executed and more.
func sampleSessions() [][]string {
	full := putLines(fullStore())
	out := [][]string{
		nil, {}, {""}, {"count"}, {"pair"}, {"near 0,0,0,0 1"}, {"kind 3"}, {"drop 1"}, {"put 1 0,0,0,0 0"},
		full, append(slices.Clone(full), "pair", "near 0,0,0,0 16", "put 1 0,0,0,0 0", "count"),
		slices.Repeat([]string{"count"}, impl.MaxLines+1), slices.Repeat([]string{"put 7 1,2,3,4 1", "drop 7"}, impl.MaxLines),
	}
	for i, size := range vec(2, 5, 12, 16, 18, 19, 20, 21, 22, 40) {
		for seed := range uint64(12) {
			out = append(out, spreadSession(500+100*uint64(i)+seed, size))
		}
	}
	return out
}

// shortSessions returns those lines of sessions behind which some more are executed.
func shortSessions(more int) [][]string {
	var out [][]string
	for _, lines := range sampleSessions() {
		out = append(out, lines[:min(len(lines), impl.MaxLines-more)])
	}
	return out
}

// lastLines returns as many of the last lines that a session prints, which has to print one for each line up to MaxLines.
func lastLines(t *testing.T, lines []string, many int) []string {
	t.Helper()
	out := impl.RunSession(lines)
	each := strings.SplitAfter(out, "\n")
	if len(each) != min(len(lines), impl.MaxLines)+1 || each[len(each)-1] != "" {
		t.Fatalf("RunSession(%q) = %q", lines, out)
	}
	each = each[:len(each)-1]
	var last []string
	for _, line := range each[len(each)-many:] {
		last = append(last, strings.TrimSuffix(line, "\n"))
	}
	return last
}
