package tests

import (
	"math"
	"slices"
	"strconv"
	"strings"
	"sync"
	"testing"

	"loop.example/vectorstore/impl"
)

func TestSessionConstants(t *testing.T) {
	if impl.MaxLines != 20 {
		t.Errorf("MaxLines is %d", impl.MaxLines)
	}
}

func TestRunSessionOrdinary(t *testing.T) {
	checkSession(t, []string{
		"count", "pair", "near 1,2,3,4 1", "put 7 1,2,3,4 5", "near 1,2,3,6 16", "put 2 1,2,3,6 0", "near 1,2,3,6 16",
		"put 50 -1,2,3,4 15", "kind 3", "near 1,2,3,6 2", "pair", "kind 2", "near 1,2,3,6 3", "pair", "drop 2", "count", "near 1,2,3,6 3", "drop 2", "kind 9", "pair",
	},
		"0", "no", "", "ok", "7:2", "ok", "2:0 7:2",
		"ok", "ok", "2:0 7:4", "2 7", "ok", "2:0 7:2 50:2", "2 7", "ok", "2", "7:2 50:2", "no", "no", "7 50",
	)
}

func TestRunSessionNumbersOfLines(t *testing.T) {
	checkSession(t, nil)
	checkSession(t, []string{})
	checkSession(t, []string{"count"}, "0")
	checkSession(t, []string{""}, "what")
	for size := range 3 * impl.MaxLines {
		lines := slices.Repeat([]string{"count"}, size)
		checkSession(t, lines, slices.Repeat([]string{"0"}, min(size, 20))...)
	}
	checkSession(t, slices.Repeat([]string{"what"}, 5000), slices.Repeat([]string{"what"}, 20)...)
	// Only as many lines as are executed change something.
	lines := append(slices.Repeat([]string{"put 1 1,1,1,1 1", "drop 1"}, 9), "put 1 1,1,1,1 1", "count", "drop 1", "count")
	checkSession(t, lines, append(slices.Repeat([]string{"ok"}, 19), "1")...)
	lines = append(slices.Repeat([]string{"put 1 1,1,1,1 1", "drop 1"}, 9), "", "", "put 1 1,1,1,1 1")
	checkSession(t, lines, append(slices.Repeat([]string{"ok"}, 18), "what", "what")...)
}

func TestRunSessionPut(t *testing.T) {
	one, two := item(1, vec(1, -2, 30, 100), 0), item(99, vec(0, 0, -100, 5), 15)
	both := []impl.Item{one, two}
	checkSession(t, []string{putLine(one), putLine(two), "count"}, "ok", "ok", "2")
	// An item with a new key, and one instead of another.
	before := []string{putLine(one), putLine(two)}
	checkExchanges(t, before, append(slices.Clone(both[:1]), item(50, flat(1), 0), two), exchange{"put 50 1,1,1,1 0", "ok"}, exchange{"put 50 1,1,1,1 7", "ok"}, exchange{"put 50 1,1,1,1 15", "ok"})
	checkExchanges(t, before, []impl.Item{item(1, vec(-100, 100, 0, 1), 0), two}, exchange{"put 1 -100,100,0,1 0", "ok"}, exchange{"put 1 -100,100,0,1 15", "ok"})
	// Nothing changes where a put fails.
	for _, key := range []string{"0", "-1", "100", "101", "999", "9999", "10000", "-999", "x", "", "01", "+1", "1.0", "-"} {
		checkExchanges(t, before, both, exchange{"put " + key + " 5,5,5,5 0", "no"})
	}
	for _, tags := range []string{"-1", "16", "17", "100", "9999", "10000", "x", "", "00", "01", "+1", "-0", "-"} {
		checkExchanges(t, before, both, exchange{"put 50 5,5,5,5 " + tags, "no"}, exchange{"put 1 5,5,5,5 " + tags, "no"})
	}
	for _, at := range []string{"", ",", ",,,", "1", "1,2,3", "1,2,3,4,5", "1,2,3,4,", ",1,2,3,4", "1,,2,3", "1,2,3,", "1,2,3,101", "-101,2,3,4", "1,2,x,4", "1,2,+3,4", "1,2,3,04", "1,-0,3,4", "1,2,3,-"} {
		checkExchanges(t, before, both, exchange{"put 50 " + at + " 0", "no"}, exchange{"put 1 " + at + " 0", "no"})
	}
}

func TestRunSessionPutsTags(t *testing.T) {
	// Tags are not printed, but only an item with valid ones is put.
	for tags := -20; tags <= 40; tags++ {
		ok, count := "no", "0"
		if tags >= 0 && tags <= 15 {
			ok, count = "ok", "1"
		}
		checkSession(t, []string{"put 1 0,0,0,0 " + strconv.Itoa(tags), "count"}, ok, count)
	}
}

func TestRunSessionPutIntoAFullStore(t *testing.T) {
	full := fullStore()
	before := putLines(full)
	checkSession(t, append(slices.Clone(before), "count", "put 1 0,0,0,0 0", "count"), append(slices.Repeat([]string{"ok"}, 16), "16", "no", "16")...)
	for _, key := range vec(1, 5, 7, 95, 97, 99) {
		checkExchanges(t, before, full, exchange{"put " + strconv.Itoa(key) + " 0,0,0,0 0", "no"})
	}
	for i, x := range full {
		now := slices.Clone(full)
		now[i].At = flat(-9)
		checkExchanges(t, before, now, exchange{"put " + strconv.Itoa(x.Key) + " -9,-9,-9,-9 3", "ok"})
	}
	// There is room again behind a drop.
	checkSession(t, append(slices.Clone(before), "drop 6", "put 1 0,0,0,0 0", "near 0,0,0,0 1", "count"), append(slices.Repeat([]string{"ok"}, 18), "1:0", "16")...)
}

func TestRunSessionDrop(t *testing.T) {
	list := []impl.Item{item(1, flat(1), 1), item(5, flat(5), 5), item(99, flat(9), 9)}
	before := putLines(list)
	for i, x := range list {
		checkExchanges(t, before, without(list, i), exchange{dropLine(x.Key), "ok"})
	}
	for _, key := range []string{"0", "-1", "2", "50", "98", "100", "9999", "10000", "-999", "x", "", "-", "01", "+1", "1,", "-5", "05", "5.", "099", "-99"} {
		checkExchanges(t, before, list, exchange{"drop " + key, "no"})
		checkExchanges(t, nil, nil, exchange{"drop " + key, "no"})
	}
	checkSession(t, []string{"drop 1", "put 1 1,1,1,1 1", "drop 1", "drop 1", "count", "put 1 1,1,1,1 1", "count"}, "no", "ok", "ok", "no", "0", "ok", "1")
	// All items can go.
	full := putLines(fullStore()[:10])
	for i := range 9 {
		full = append(full, dropLine(6*(i+1)))
	}
	checkSession(t, append(full, "near 0,0,0,0 16"), append(slices.Repeat([]string{"ok"}, 19), hitLine(wantHits(fullStore()[9:10], impl.DistSum, flat(0))))...)
}

func TestRunSessionNear(t *testing.T) {
	list := []impl.Item{item(1, vec(5, 0, 0, 0), 0), item(2, vec(0, 5, 0, 0), 1), item(3, vec(0, 0, 1, 0), 2), item(4, vec(0, 0, 0, -5), 3), item(5, vec(2, 2, 0, 0), 4), item(99, vec(0, 0, 3, 4), 5)}
	before := putLines(list)
	for kind, want := range map[int]string{
		impl.DistSum:    "3:1 5:4 1:5 2:5 4:5 99:7",
		impl.DistMost:   "3:1 5:2 99:4 1:5 2:5 4:5",
		impl.DistSquare: "3:1 5:8 1:25 2:25 4:25 99:25",
		impl.DistCount:  "1:1 2:1 3:1 4:1 5:2 99:2",
	} {
		hits := strings.Split(want, " ")
		for k := 1; k <= impl.MaxItems; k++ {
			found := strings.Join(hits[:min(k, len(hits))], " ")
			lines := append(slices.Clone(before), kindLine(kind), nearLine(flat(0), k), "count")
			if got := lastLines(t, lines, 3); !slices.Equal(got, []string{"ok", found, "6"}) {
				t.Errorf("RunSession(%q) ends with %q, not %q", lines, got, found)
			}
			// An empty store has no hits, but the line is there.
			checkSession(t, []string{kindLine(kind), nearLine(flat(0), k), "count"}, "ok", "", "0")
		}
	}
	// Without a kind it is the sum.
	checkSession(t, append(before, "near 0,0,0,0 3"), append(slices.Repeat([]string{"ok"}, 6), "3:1 5:4 1:5")...)
}

func TestRunSessionNearInvalid(t *testing.T) {
	list := []impl.Item{item(1, flat(1), 1), item(5, flat(5), 5)}
	for _, now := range [][]impl.Item{nil, list} {
		before := putLines(now)
		for _, k := range []string{"0", "-1", "17", "18", "100", "9999", "10000", "x", "", "-", "01", "+1", "1.", "-0", "00001", "1,"} {
			checkExchanges(t, before, now, exchange{"near 0,0,0,0 " + k, "no"})
		}
		for _, at := range []string{"", ",", ",,,", "1", "1,2,3", "1,2,3,4,5", "1,2,3,4,", ",1,2,3,4", ",2,3,4", "1,,3,4", "1,2,3,", "1,2,3,101", "-101,2,3,4", "1,2,3,-999", "1,2,x,4", "x,2,3,4", "1,2,+3,4", "1,2,3,04", "1,-0,3,4", "1,2,3,-", "1,2,3,-1000", "1;2;3;4"} {
			checkExchanges(t, before, now, exchange{"near " + at + " 1", "no"}, exchange{"near " + at + " 16", "no"})
		}
		checkExchanges(t, before, now, exchange{"near 1,2,3 0", "no"}, exchange{"near  ", "no"}, exchange{"near x x", "no"})
	}
}

func TestRunSessionNearAll(t *testing.T) {
	for _, list := range searchStores() {
		before := putLines(list)
		for _, at := range searchVectors(list)[:4] {
			for _, kind := range allKinds() {
				for _, k := range vec(1, 3, impl.MaxItems) {
					want := wantHits(list, kind, at)
					got := lastLines(t, append(slices.Clone(before), kindLine(kind), nearLine(at, k)), 1)
					if got[0] != hitLine(want[:min(k, len(want))]) {
						t.Errorf("near of %v, kind %d, %v, %d = %q, not the first of %v", list, kind, at, k, got, want)
					}
				}
			}
		}
	}
}

func TestRunSessionKind(t *testing.T) {
	// The distances are 5, 4, 17 and 2.
	before := []string{"put 7 4,1,0,0 0"}
	for kind, want := range map[string]string{"1": "7:5", "2": "7:4", "3": "7:17", "4": "7:2"} {
		checkSession(t, append(slices.Clone(before), "kind "+kind, "near 0,0,0,0 1"), "ok", "ok", want)
		// A kind that there is not leaves the one that was chosen.
		for _, wrong := range []string{"0", "5", "-1", "6", "9999", "10000", "-999", "x", "", "-", "01", "+1", "1,", "-2", "1.0", "-0"} {
			checkSession(t, append(slices.Clone(before), "kind "+kind, "kind "+wrong, "near 0,0,0,0 1"), "ok", "ok", "no", want)
			checkSession(t, append(slices.Clone(before), "kind "+wrong, "near 0,0,0,0 1", "count"), "ok", "no", "7:5", "1")
		}
		// Each kind can be chosen behind each other one, and it stays until then.
		for other, then := range map[string]string{"1": "7:5", "2": "7:4", "3": "7:17", "4": "7:2"} {
			checkSession(t, append(slices.Clone(before), "kind "+kind, "count", "near 0,0,0,0 1", "kind "+other, "drop 7", before[0], "near 0,0,0,0 1"), "ok", "ok", "1", want, "ok", "ok", "ok", then)
		}
	}
}

func TestRunSessionPair(t *testing.T) {
	checkSession(t, []string{"pair"}, "no")
	checkSession(t, []string{"put 5 0,0,0,0 0", "pair"}, "ok", "no")
	checkSession(t, []string{"put 99 0,0,0,0 0", "put 1 100,100,100,100 0", "pair", "drop 1", "pair"}, "ok", "ok", "1 99", "ok", "no")
	// Each kind of distances has another closest pair.
	before := []string{
		"put 1 -50,60,0,0 0", "put 2 -50,60,50,0 0", "put 3 -100,-100,-100,-100 0", "put 4 -96,-96,-96,-96 0",
		"put 5 100,100,-100,-100 0", "put 6 90,100,-100,-100 0", "put 7 100,-90,100,-50 0", "put 8 95,-85,99,-50 0",
	}
	checkSession(t, append(slices.Clone(before), "pair", "kind 2", "pair", "kind 3", "pair", "kind 4", "pair", "kind 1", "pair", "kind 5", "pair"),
		append(slices.Repeat([]string{"ok"}, 8), "5 6", "ok", "3 4", "ok", "7 8", "ok", "1 2", "ok", "5 6", "no", "5 6")...)
	// Of several pairs the first one in order of the keys.
	for _, kind := range allKinds() {
		checkSession(t, append([]string{kindLine(kind)}, "put 9 1,1,1,1 0", "put 4 1,1,1,1 0", "put 8 1,1,1,1 0", "put 6 50,50,50,50 0", "pair"), "ok", "ok", "ok", "ok", "ok", "4 8")
	}
}

func TestRunSessionPairAll(t *testing.T) {
	for _, list := range searchStores() {
		before := putLines(list)
		for _, kind := range allKinds() {
			want := "no"
			if first, second, ok := impl.ClosestPair(list, kind); ok {
				want = strconv.Itoa(first) + " " + strconv.Itoa(second)
			}
			if got := lastLines(t, append(slices.Clone(before), kindLine(kind), "pair", "count"), 2); !slices.Equal(got, []string{want, strconv.Itoa(len(list))}) {
				t.Errorf("pair and count of %v, kind %d, = %q, not %q", list, kind, got, want)
			}
		}
	}
}

func TestRunSessionCount(t *testing.T) {
	full := fullStore()
	for size := range len(full) + 1 {
		lines := append(putLines(full[:size]), "count")
		checkSession(t, lines, append(slices.Repeat([]string{"ok"}, size), strconv.Itoa(size))...)
	}
}

func TestRunSessionWhat(t *testing.T) {
	list := []impl.Item{item(5, flat(5), 5)}
	for _, line := range oddLines() {
		// An empty word may also be one that is only not valid.
		out := wantSession([]string{line})
		if out != "no\n" && out != "what\n" {
			t.Fatalf("%q is a command: %q", line, out)
		}
		checkExchanges(t, putLines(list), list, exchange{line, strings.TrimSuffix(out, "\n")})
		checkExchanges(t, nil, nil, exchange{line, strings.TrimSuffix(out, "\n")})
	}
	for _, line := range []string{"", " ", "count ", " count", "count  ", "Count", "COUNT", "pair ", " pair", "pair 1", "Pair", "put", "put 5", "put 5 1,2,3,4", "put 5 1,2,3,4 1 ", "put 5 1,2,3,4 1 1", "put 5  1,2,3,4 1", "put  5 1,2,3,4 1", " put 5 1,2,3,4 1", "Put 5 1,2,3,4 1", "PUT 5 1,2,3,4 1", "drop", "drop 5 ", "drop  5", "drop 5 5", " drop 5", "Drop 5", "near", "near 0,0,0,0", "near 0,0,0,0 1 ", "near  0,0,0,0 1", "near 0,0,0,0  1", " near 0,0,0,0 1", "near 0,0,0,0 1 1", "NEAR 0,0,0,0 1", "kind", "kind 1 ", "kind  1", "kind 1 1", " kind 1", "Kind 1", "kinD 1"} {
		checkExchanges(t, putLines(list), list, exchange{line, "what"})
	}
	// An empty word counts as any other word that is no number.
	for _, line := range []string{"drop ", "kind ", "put  1,2,3,4 1", "put 5 1,2,3,4 ", "put 5  1", "put   ", "near 0,0,0,0 ", "near  1", "near  "} {
		checkExchanges(t, putLines(list), list, exchange{line, "no"})
	}
}

func TestRunSessionNumbers(t *testing.T) {
	// All words of at most four of these bytes, as a coordinate: the distance tells which number it is.
	alphabet := "0159+-.x"
	words := []string{""}
	for from := 0; len(words[from]) < 4; from++ {
		for _, c := range alphabet {
			words = append(words, words[from]+string(c))
		}
	}
	words = append(words, "10000", "-1000", "00000", "00001", "-0001", "+0100", "12345", "-9999", "000000000000000000001", strings.Repeat("1", 400), strconv.Itoa(math.MaxInt), strconv.Itoa(math.MinInt))
	good := 0
	for _, word := range words {
		n, number := allNumbers[word]
		lines := []string{"put 1 0,0," + word + ",0 0", "near 0,0,100,0 1"}
		if number && n >= -100 && n <= 100 {
			checkSession(t, lines, "ok", "1:"+strconv.Itoa(100-n))
			good++
		} else {
			checkSession(t, lines, "no", "")
		}
	}
	if good < 20 {
		t.Errorf("only %d words are coordinates", good)
	}
}

func TestRunSessionBytes(t *testing.T) {
	// All words of one or two bytes, as a coordinate, but those that make more words or coordinates of it.
	check := func(word string) {
		if strings.ContainsAny(word, " ,") {
			return
		}
		want := "no\n\n"
		if n, number := allNumbers[word]; number {
			want = "ok\n1:" + strconv.Itoa(100-n) + "\n"
		}
		if got := impl.RunSession([]string{"put 1 0,0," + word + ",0 0", "near 0,0,100,0 1"}); got != want {
			t.Errorf("RunSession with the coordinate %q = %q, not %q", word, got, want)
		}
	}
	for first := range 256 {
		check(string([]byte{byte(first)}))
		for second := range 256 {
			check(string([]byte{byte(first), byte(second)}))
		}
	}
}

func TestRunSessionNumbersInAllPlaces(t *testing.T) {
	for n := -1200; n <= 10200; n++ {
		word := strconv.Itoa(n)
		_, number := allNumbers[word]
		key := yes(number && n >= 1 && n <= 99)
		tags := yes(number && n >= 0 && n <= 15)
		coord := yes(number && n >= -100 && n <= 100)
		kind := yes(number && n >= 1 && n <= 4)
		near := "no"
		if n >= 1 && n <= 16 {
			near = ""
		}
		checkSession(t, []string{"near 0,0,0,0 " + word, "put " + word + " 0,0,0,0 0", "drop " + word, "put 1 0,0,0,0 " + word, "drop 1", "put 1 0,0,0," + word + " 0", "drop 1", "put 1 " + word + ",0,0,0 0", "kind " + word},
			near, key, key, tags, tags, coord, coord, coord, kind)
	}
}

func TestRunSessionNumbersWrittenOtherwise(t *testing.T) {
	for n := range 100 {
		plain := strconv.Itoa(n)
		for _, word := range []string{"0" + plain, "00" + plain, "+" + plain, "-0" + plain, "--" + plain, plain + ".", plain + "_", plain + "-", "\t" + plain} {
			checkSession(t, []string{"put 1 0,0,0,0 " + word, "put " + word + " 0,0,0,0 0", "put 1 " + word + ",0,0,0 0", "near 0,0,0," + word + " 1", "near 0,0,0,0 " + word, "kind " + word, "drop " + word, "count"},
				"no", "no", "no", "no", "no", "no", "no", "0")
		}
	}
}

func TestRunSessionVectorsAtTheirLimits(t *testing.T) {
	for i := range impl.Dims {
		for _, c := range vec(-101, -100, -99, 99, 100, 101) {
			at := flat(0)
			at[i] = c
			ok, near := yes(c >= -100 && c <= 100), "no"
			if ok == "ok" {
				near = "1:0"
			}
			lines := []string{"put 1 " + vectorWord(at) + " 0", nearLine(at, 1)}
			checkSession(t, lines, ok, near)
		}
	}
	// Each coordinate is at its place.
	checkSession(t, []string{"put 1 1,20,-30,40 0", "near 0,0,0,0 1", "kind 2", "near 1,20,-30,0 1", "near 1,20,0,40 1", "near 1,0,-30,40 1", "near 0,20,-30,40 1"}, "ok", "1:91", "ok", "1:40", "1:30", "1:20", "1:1")
}

func TestRunSessionAll(t *testing.T) {
	outs := map[string]int{}
	check := func(lines []string) {
		got, want := impl.RunSession(lines), wantSession(lines)
		if got != want {
			t.Errorf("RunSession(%q) = %q, not %q", lines, got, want)
		}
		for _, out := range strings.Split(got, "\n") {
			outs[out]++
		}
	}
	for _, lines := range sampleSessions() {
		check(lines)
	}
	for seed := range uint64(300) {
		check(spreadSession(3000+seed, impl.MaxLines))
	}
	for _, at := range oddVectors() {
		check([]string{"put 1 0,0,0,0 0", "put 2 " + at + " 0", "near " + at + " 1", "near 0,0,0,0 16", "count"})
	}
	for _, word := range oddWords() {
		check([]string{"put 1 0,0,0,0 0", "put " + word + " 1,1,1,1 0", "put 2 2,2,2,2 " + word, "near 0,0,0,0 " + word, "kind " + word, "near 0,0,0,0 16", "drop " + word, "count"})
	}
	for _, out := range []string{"ok", "no", "what", "", "0", "5"} {
		if outs[out] < 20 {
			t.Errorf("%q is printed only %d times", out, outs[out])
		}
	}
}

func TestSessionLinesAreNotChanged(t *testing.T) {
	for _, sample := range sampleSessions() {
		lines := append(slices.Clone(sample), "count", "pair")[:len(sample)]
		want := slices.Clone(lines[:cap(lines)])
		out := impl.RunSession(lines)
		if !slices.Equal(lines[:cap(lines)], want) {
			t.Errorf("arguments are changed: %q", lines[:cap(lines)])
		}
		// What lies in the spare capacity is no line.
		if again := impl.RunSession(slices.Clip(slices.Clone(sample))); out != again {
			t.Errorf("RunSession(%q) = %q, and then %q", sample, out, again)
		}
	}
}

func TestSessionsKeepNothing(t *testing.T) {
	for range 2 {
		checkSession(t, []string{"count", "near 1,1,1,1 16", "put 7 1,2,1,1 5", "near 1,0,1,1 16", "kind 3", "near 1,0,1,1 16", "pair"}, "0", "", "ok", "7:2", "ok", "7:4", "no")
	}
	var callers sync.WaitGroup
	for caller := range uint64(8) {
		callers.Go(func() {
			for _, lines := range [][]string{spreadSession(caller, 20), putLines(fullStore()), spreadSession(caller+50, 20)} {
				if got, want := impl.RunSession(lines), wantSession(lines); got != want {
					t.Errorf("RunSession(%q) = %q, not %q", lines, got, want)
				}
			}
		})
	}
	callers.Wait()
}
