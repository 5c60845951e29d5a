package tests

import (
	"math"
	"slices"
	"strings"
	"testing"

	"loop.example/g00409/impl"
)

// watchFault wants a code and a place of ParsePath, and the zero answer of all that reads the path in its turn.
func watchFault(t *testing.T, s string, code, place int) {
	t.Helper()
	x := watch(t, impl.ParsePath, s)
	if x[0].Len() != 0 || x[1].Int() != int64(code) || x[2].Int() != int64(place) || x[3].Bool() {
		t.Errorf("ParsePath %q: %v, want the code %d and the place %d", s, x, code, place)
	}
	wantZero(t, impl.CountIn, s)
	wantZero(t, impl.MovePath, s, pt(0, 0))
	wantZero(t, impl.MovePath, s, pt(-3, 4))
}

func watchPath(t *testing.T, s string) {
	t.Helper()
	if x := watchTold(t, impl.ParsePath, s); x[1].Int() != 0 || x[2].Int() != 0 {
		t.Errorf("ParsePath %q: %v, want no code and no place", s, x)
	}
	watchTold(t, impl.CountIn, s)
}

func TestPromise19GoodPaths(t *testing.T) {
	r := fixed(229)
	for _, c := range pathRows() {
		watchPath(t, c.path)
		watchPath(t, c.printed)
		watchTold(t, impl.PrintPath, c.ways)
		watchTold(t, impl.MovePath, c.path, pt(0, 0))
		watch(t, impl.MovePath, c.path, pt(-1, 3))
	}
	for _, l := range edgeWays() {
		watchTold(t, impl.GoodWays, l)
		watch(t, impl.PrintPath, l)
	}
	for range 300 {
		l := someWays(r, 1+r.IntN(impl.MaxWays), 25)
		watchTold(t, impl.GoodWays, l)
		watchTold(t, impl.PrintPath, l)
		if s := somePath(r, l); len(s) <= impl.MaxPath {
			watchPath(t, s)
			watchTold(t, impl.MovePath, s, somePt(r, 20))
			watch(t, impl.MovePath, s, somePt(r, far))
		}
	}
	for n := -mostNumber; n <= mostNumber; n += 101 {
		watchTold(t, impl.ReadNumber, watchTold(t, impl.NumberText, n)[0].String())
	}
}

func TestPromise19WrongPaths(t *testing.T) {
	for _, c := range faultRows() {
		watchFault(t, c.path, c.code, c.place)
	}
	for _, wrong := range wrongLetters() {
		if wrong.text == "" {
			continue
		}
		watchFault(t, wrong.text, impl.PaWord, 0)
		watchFault(t, wrong.text+" M 0 0 H 1 V 1 Z", impl.PaWord, 0)
		watchFault(t, "M 0 0 "+wrong.text, impl.PaWord, 3)
		watchFault(t, "M 0 0 H 1 V 1 Z "+wrong.text, impl.PaWord, 8)
	}
	for _, wrong := range wrongNumberTexts() {
		if len(wrong.text) > 300 {
			watchFault(t, "M "+wrong.text+" 0", impl.PaEmpty, 0)
			continue
		}
		watchFault(t, "M "+wrong.text, impl.PaNumber, 1)
		watchFault(t, "M 0 "+wrong.text+" H 1 V 1 Z", impl.PaNumber, 2)
		watchFault(t, "M 0 0 H "+wrong.text+" V 1 Z", impl.PaNumber, 4)
		watchFault(t, "M 0 0 H 1 l 1 "+wrong.text+" Z", impl.PaNumber, 7)
	}
}

func TestPromise19LongTexts(t *testing.T) {
	for _, s := range []string{strings.Repeat("M 0 0 H 1 V 1 Z ", 100000), strings.Repeat("9", 1000000), "M " + strings.Repeat("9", 1000000), strings.Repeat(" ", 1000000), strings.Repeat("\xff", 1000000), strings.Repeat("M ", 100000), "M 0 0" + strings.Repeat(" h 1", 100000), "-" + strings.Repeat("0", 1000000), strings.Repeat("-", 1000000)} {
		watchFault(t, s, impl.PaEmpty, 0)
		wantZero(t, impl.ReadNumber, s)
	}
}

// Any bytes at all, in texts of any length up to some more than MaxPath.
func TestPromise19AnyBytes(t *testing.T) {
	r := fixed(230)
	plain := []byte(" 0123456789-MLlHVhvZ")
	for n := range impl.MaxPath + 5 {
		for _, bytes := range [][]byte{allBytes(), plain, []byte(" MLZ01")} {
			s := make([]byte, n)
			for i := range s {
				s[i] = bytes[r.IntN(len(bytes))]
			}
			_, code, place := plainParse(string(s))
			if code == 0 {
				watchPath(t, string(s))
				continue
			}
			watchFault(t, string(s), code, place)
			watch(t, impl.ReadNumber, string(s))
		}
	}
}

func TestPromise19WrongWaysLists(t *testing.T) {
	for _, wrong := range wrongWaysLists() {
		wantZero(t, impl.GoodWays, wrong)
		wantZero(t, impl.PrintPath, wrong)
	}
	for n := impl.MaxPath + 1; n <= 679; n += 3 {
		l := waysOfLength(n)
		watchTold(t, impl.GoodWays, l)
		wantZero(t, impl.PrintPath, l)
	}
}

// A point beyond the grid at each place of each way, also such as wrap round.
func TestPromise19WrongPtInWays(t *testing.T) {
	for n := 1; n <= impl.MaxWays; n++ {
		for at := range n {
			for _, points := range []int{3, impl.MaxCorners} {
				for corner := range points {
					for _, wrong := range []impl.Pt{pt(far+1, 0), pt(0, -far-1), pt(math.MinInt, 0), pt(0, math.MaxInt), pt(math.MaxInt, math.MinInt), pt(1<<32, 0)} {
						l := manyWays(n, points)
						l[at][corner] = wrong
						wantZero(t, impl.GoodWays, l)
						wantZero(t, impl.PrintPath, l)
					}
				}
			}
		}
	}
}

func TestPromise19WrongMoves(t *testing.T) {
	for _, by := range wrongMoves() {
		for _, c := range pathRows() {
			wantZero(t, impl.MovePath, c.path, by)
		}
		wantZero(t, impl.MovePath, "", by)
		wantZero(t, impl.MovePath, "M 0 0", by)
	}
	for _, by := range wayOf(far, 0, 0, far, -far, 0, 0, -far, 1, 0, 0, -1) {
		wantZero(t, impl.MovePath, "M -1000 -1000 H 1000 V 1000 H -1000 Z", by)
	}
	// What is moved has a path that is too long.
	watchTold(t, impl.MovePath, plainPath(waysOfLength(295)), pt(9, 9))
	wantZero(t, impl.MovePath, plainPath(waysOfLength(295)), pt(-10, 10))
}

func TestPromise19WrongNumberTexts(t *testing.T) {
	for _, n := range []int{mostNumber + 1, -mostNumber - 1, 100000, -100000, 1 << 32, -1 << 32, 1 << 62, math.MinInt, math.MinInt + 1, math.MaxInt, math.MaxInt - 1} {
		wantZero(t, impl.NumberText, n)
	}
	for _, c := range append(wrongNumberTexts(), wrongNumbersBeside()...) {
		wantZero(t, impl.ReadNumber, c.text)
	}
	for _, b := range allBytes() {
		if b < '0' || b > '9' {
			for _, s := range []string{string([]byte{b}), string([]byte{b, '1'}), string([]byte{'1', b}), string([]byte{'-', b}), string([]byte{'-', '1', b}), string([]byte{'1', b, '1'})} {
				if s != "-1" {
					wantZero(t, impl.ReadNumber, s)
				}
			}
		}
	}
}

// Ways that are pieces of one list, and one way more than once: no call reads or writes what lies behind, or ahead.
func TestPromise19WaysOfAPathInOneMemory(t *testing.T) {
	all := append(comb(9), wayOf(77, 78, far+5, 0, math.MinInt, 3)...)
	kept := slices.Clone(all)
	for from := range 6 {
		for to := from + 3; to <= impl.MaxCorners; to++ {
			piece := all[from:to]
			for _, l := range [][][]impl.Pt{{piece}, {piece, piece}, {piece, all[:3], piece, all[2:6]}, {all[:to], piece}} {
				keptWays := slices.Clone(l)
				for _, f := range []any{impl.PrintPath, impl.GoodWays} {
					wantDirectly(t, f, watchTold(t, f, cloneWays(l)), l)
				}
				for i := range l {
					if &l[i][0] != &keptWays[i][0] || len(l[i]) != len(keptWays[i]) {
						t.Fatalf("written into: %v", l)
					}
				}
			}
		}
	}
	many := append(manyWays(impl.MaxWays, 3), longWay(2), nil, wayOf(far+9, 0))
	keptMany := cloneWays(many)
	for n := 1; n <= impl.MaxWays; n++ {
		wantDirectly(t, impl.PrintPath, watchTold(t, impl.PrintPath, cloneWays(many[:n])), many[:n])
	}
	if !slices.Equal(all, kept) || !sameWays(many, keptMany) {
		t.Fatalf("written into: %v %v", all, many)
	}
}

// What is told is new at each call: what is written into it is not seen in what is told again, nor in another way of it.
func TestPromise19PathsToldAnew(t *testing.T) {
	for _, c := range pathRows() {
		first, _, _, ok := impl.ParsePath(c.path)
		wantWays(t, c.why, c.path, first, ok, c.ways)
		for i := range first {
			for j := range first[i] {
				first[i][j] = pt(-7, -7)
			}
			_ = append(first[i], pt(-8, -8), pt(-8, -8), pt(-8, -8))
			for j := i + 1; j < len(first); j++ {
				if !slices.Equal(first[j], c.ways[j]) {
					t.Fatalf("%s: ParsePath %q: written into the way %d, and seen in %d", c.why, c.path, i, j)
				}
			}
		}
		clear(first)
		again, _, _, ok := impl.ParsePath(c.path)
		wantWays(t, c.why, c.path, again, ok, c.ways)
		ways := cloneWays(c.ways)
		s, ok := impl.PrintPath(ways)
		for i := range ways {
			clear(ways[i])
		}
		wantText(t, c.why, c.path, s, ok, c.printed)
	}
}

// Behind its length an answer has no memory that a later append would show.
func TestPromise19NothingBehindPaths(t *testing.T) {
	r := fixed(231)
	paths := []string{}
	for _, c := range pathRows() {
		paths = append(paths, c.path)
	}
	for n := 1; n <= impl.MaxWays; n++ {
		for points := 3; points <= impl.MaxCorners; points++ {
			paths = append(paths, somePath(r, manyWays(n, points)))
		}
	}
	for _, s := range paths {
		l, _, _, ok := impl.ParsePath(s)
		if !ok {
			t.Fatalf("ParsePath %q: refused", s)
		}
		for _, way := range l[len(l):cap(l)] {
			if way != nil {
				t.Errorf("ParsePath %q: behind %v lies %v", s, l, way)
			}
		}
		for _, way := range l {
			for _, p := range way[len(way):cap(way)] {
				if p != pt(0, 0) {
					t.Errorf("ParsePath %q: behind %v lies %v", s, way, p)
				}
			}
		}
	}
}
