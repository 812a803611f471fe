package tests

import (
	"slices"
	"strconv"
	"strings"
	"testing"

	"loop.example/vectorstore/impl"
)

func TestP128SessionsRunLineByLine(t *testing.T) {
	for _, lines := range sampleSessions() {
		all := impl.RunSession(lines)
		for size := range len(lines) + 1 {
			first := impl.RunSession(lines[:size])
			if !strings.HasPrefix(all, first) || strings.Count(first, "\n") != min(size, impl.MaxLines) {
				t.Errorf("RunSession(%q) = %q, and of all lines %q", lines[:size], first, all)
			}
		}
	}
}

func TestP129QuestionsChangeNothing(t *testing.T) {
	questions := []string{"near 0,0,0,0 1", "pair", "count", "near 1,2,3,4 16", "near 1,2,3 0"}
	for _, lines := range shortSessions(len(questions) + 1) {
		count := lastLines(t, append(slices.Clone(lines), "count"), 1)
		asked := slices.Concat(lines, questions)
		if got := lastLines(t, append(asked, "count"), 1); !slices.Equal(got, count) {
			t.Errorf("count behind %q = %q, not %q", asked, got, count)
		}
		// Nor do questions in front of a line change what it prints.
		for i := range lines {
			for _, question := range questions {
				between := slices.Insert(slices.Clone(lines), i, question)
				got := strings.SplitAfter(impl.RunSession(between), "\n")
				if rest := strings.Join(slices.Delete(got, i, i+1), ""); rest != impl.RunSession(lines) {
					t.Errorf("RunSession(%q) = %q without the line %d, not %q", between, rest, i, impl.RunSession(lines))
				}
			}
		}
	}
}

func TestP130ItemsAreFoundWhereTheyAre(t *testing.T) {
	put := 0
	for i, lines := range shortSessions(2) {
		number := numbers(uint64(i))
		for range 5 {
			x := spreadItem(number, number(1, impl.MaxKey))
			got := lastLines(t, append(slices.Clone(lines), putLine(x), nearLine(x.At, impl.MaxItems)), 2)
			if got[0] != "ok" {
				continue
			}
			put++
			if !slices.Contains(strings.Split(got[1], " "), strconv.Itoa(x.Key)+":0") {
				t.Errorf("behind %q and a put of %v near it there is %q", lines, x, got[1])
			}
			first := lastLines(t, append(slices.Clone(lines), putLine(x), nearLine(x.At, 1)), 1)[0]
			if !strings.HasSuffix(first, ":0") || strings.Contains(first, " ") {
				t.Errorf("behind %q and a put of %v nearest to it is %q", lines, x, first)
			}
		}
	}
	if put < 200 {
		t.Errorf("only %d items are put", put)
	}
}

func TestP177WhatIsPutCanBeDropped(t *testing.T) {
	free := 0
	for _, lines := range shortSessions(4) {
		count := lastLines(t, append(slices.Clone(lines), "count"), 1)
		for _, x := range []impl.Item{item(1, flat(1), 0), item(20, flat(-100), 15), item(21, flat(0), 1), item(99, flat(100), 7)} {
			// A key is free if nothing can be dropped.
			if lastLines(t, append(slices.Clone(lines), dropLine(x.Key)), 1)[0] != "no" {
				continue
			}
			got := lastLines(t, append(slices.Clone(lines), putLine(x), dropLine(x.Key), "near 0,0,0,0 16", "count"), 4)
			if got[0] != got[1] || got[3] != count[0] {
				t.Errorf("behind %q a put and a drop of %v print %q, and count was %q", lines, x, got, count)
			}
			if got[0] == "ok" {
				free++
			}
		}
	}
	if free < 200 {
		t.Errorf("only %d items are put and dropped", free)
	}
}

func TestP178KindsOfDistancesAreChosen(t *testing.T) {
	for i, at := range sampleVectors() {
		for j, from := range sampleVectors() {
			x := item(i*3%impl.MaxKey+1, at, (i+j)%16)
			lines, want := []string{putLine(x), nearLine(from, 1)}, []string{"ok", hitLine([]impl.Hit{hit(x.Key, impl.Distance(impl.DistSum, at, from))})}
			for _, kind := range allKinds() {
				lines = append(lines, kindLine(kind), nearLine(from, 1+(i+j)%impl.MaxItems))
				want = append(want, "ok", hitLine([]impl.Hit{hit(x.Key, impl.Distance(kind, at, from))}))
			}
			checkSession(t, lines, want...)
		}
	}
}
