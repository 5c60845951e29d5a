package tests

import (
	"math"
	"slices"
	"strings"
	"testing"

	"loop.example/g00409/impl"
)

// callsOfRuns are all that take one list of runs.
func callsOfRuns() []any {
	return []any{impl.FromRuns, impl.RunsText}
}

// callsOfText are all that read a text.
func callsOfText() []any {
	return []any{impl.ReadRuns, impl.ReadPicture}
}

func TestPromise19GoodRows(t *testing.T) {
	r := fixed(217)
	for n := range impl.MaxRow + 1 {
		for _, row := range [][]int{someRow(r, n), alikeRow(n, 0), alikeRow(n, 255), unlikeRow(n)} {
			l := plainRuns(row)
			watchTold(t, impl.RunsOf, row)
			watch(t, impl.GoodRuns, l)
			for _, f := range callsOfRuns() {
				watchTold(t, f, l)
			}
			watchTold(t, impl.ReadRuns, plainText(l))
			watchTold(t, impl.JoinRuns, l, plainRuns(row[:min(n, impl.MaxRow-n)]))
			watchTold(t, impl.JoinRuns, plainRuns(row[:n/2]), plainRuns(row[n/2:]))
		}
	}
	for range 200 {
		w, h, bytes := somePicture(r)
		watchTold(t, impl.PictureBytes, w, h, bytes)
		watchTold(t, impl.ReadPicture, plainPicture(w, h, bytes))
	}
}

func TestPromise19RunsWrittenOut(t *testing.T) {
	for _, c := range runsRows() {
		watchTold(t, impl.RunsOf, c.row)
		watchTold(t, impl.ReadRuns, c.text)
		for _, f := range callsOfRuns() {
			watchTold(t, f, c.runs)
		}
	}
	for _, c := range pictureRows() {
		watchTold(t, impl.PictureBytes, c.w, c.h, c.bytes)
		watchTold(t, impl.ReadPicture, c.text)
	}
	for _, c := range joinRows() {
		watchTold(t, impl.JoinRuns, c.a, c.b)
	}
}

// The empty list and the nil list are one.
func TestPromise19NothingInARow(t *testing.T) {
	for _, l := range [][]impl.Run{nil, {}} {
		if !impl.GoodRuns(l) {
			t.Errorf("GoodRuns %v: false", l)
		}
		row, ok := impl.FromRuns(l)
		wantInts(t, "FromRuns", l, row, ok, nil)
		s, ok := impl.RunsText(l)
		wantText(t, "RunsText", l, s, ok, "")
		for _, other := range [][]impl.Run{nil, {}} {
			both, ok := impl.JoinRuns(l, other)
			wantRuns(t, "JoinRuns", l, both, ok, nil)
		}
	}
	for _, row := range [][]int{nil, {}} {
		l, ok := impl.RunsOf(row)
		wantRuns(t, "RunsOf", row, l, ok, nil)
		wantZero(t, impl.PictureBytes, 1, 1, row)
		wantZero(t, impl.PictureBytes, 0, 0, row)
	}
	l, ok := impl.ReadRuns("")
	wantRuns(t, "ReadRuns", "", l, ok, nil)
	wantZero(t, impl.ReadPicture, "")
}

func TestPromise19WrongRuns(t *testing.T) {
	for _, wrong := range wrongRuns() {
		wantZero(t, impl.GoodRuns, wrong)
		for _, f := range callsOfRuns() {
			wantZero(t, f, wrong)
		}
		for _, good := range [][]impl.Run{nil, likes(1, 7), likes(impl.MaxRow, 0), likes(1, 0, 2, 255)} {
			wantZero(t, impl.JoinRuns, wrong, good)
			wantZero(t, impl.JoinRuns, good, wrong)
		}
		wantZero(t, impl.JoinRuns, wrong, wrong)
	}
	wantZero(t, impl.GoodRuns, make([]impl.Run, 1))
	wantZero(t, impl.GoodRuns, make([]impl.Run, 3000))
	wantZero(t, impl.JoinRuns, make([]impl.Run, 1), likes(1, 7))
}

// One run of a long list is wrong, at each place of it.
func TestPromise19WrongRunAtEachPlace(t *testing.T) {
	for at := range 40 {
		for _, wrong := range []impl.Run{{}, {Value: 300, Many: 1}, {Value: -1, Many: 1}, {Value: 256, Many: 1}, {Value: 9}, {Value: 9, Many: -1}, {Value: 9, Many: 62}, {Value: 9, Many: math.MinInt}, {Value: 9, Many: math.MaxInt}, {Value: math.MinInt, Many: 1}, {Value: math.MaxInt, Many: 1}} {
			l := plainRuns(unlikeRow(40))
			l[at] = wrong
			wantZero(t, impl.GoodRuns, l)
			for _, f := range callsOfRuns() {
				wantZero(t, f, l)
			}
			wantZero(t, impl.JoinRuns, l, likes(1, 7))
			wantZero(t, impl.JoinRuns, likes(), l)
		}
	}
}

func TestPromise19WrongRows(t *testing.T) {
	for _, row := range wrongRows() {
		wantZero(t, impl.RunsOf, row)
		wantZero(t, impl.PictureBytes, 1, len(row), row)
		wantZero(t, impl.PictureBytes, len(row), 1, row)
	}
}

func TestPromise19RowsTooLongTogether(t *testing.T) {
	for n := 1; n <= impl.MaxRow; n++ {
		row := unlikeRow(impl.MaxRow + 1)
		wantZero(t, impl.JoinRuns, plainRuns(row[:n]), plainRuns(row[n:]))
		wantZero(t, impl.JoinRuns, likes(n, 7), likes(impl.MaxRow+1-n, 7))
		wantZero(t, impl.JoinRuns, likes(n, 7), likes(impl.MaxRow, 0))
	}
}

func TestPromise19WrongTexts(t *testing.T) {
	for _, c := range append(wrongRunTexts(), wrongPictureTexts()...) {
		for _, f := range callsOfText() {
			if c.text == "" && nameOf(f) == "ReadRuns" || c.why == "the runs of one" {
				continue
			}
			wantZero(t, f, c.text)
		}
	}
	for _, c := range runsRows() {
		wantZero(t, impl.ReadPicture, c.text)
	}
	for _, c := range pictureRows() {
		wantZero(t, impl.ReadRuns, c.text)
		for at := range len(c.text) {
			wantZero(t, impl.ReadPicture, c.text[:at])
		}
		wantZero(t, impl.ReadPicture, c.text+"A")
	}
	for _, s := range []string{strings.Repeat("1x0,1x1,", 100000), strings.Repeat("9", 1000000), strings.Repeat(",", 1000000), strings.Repeat("x", 100000), strings.Repeat("\n255\n", 100000), "P5\n" + strings.Repeat(" ", 100000), "P5\n1 1" + strings.Repeat("\n255\n", 100000)} {
		for _, f := range callsOfText() {
			wantZero(t, f, s)
		}
	}
}

func TestPromise19WrongSides(t *testing.T) {
	for _, wrong := range []int{0, -1, -mostAside, mostAside + 1, 2 * mostAside, 100, 1 << 32, -1 << 32, math.MinInt, math.MinInt + 1, math.MaxInt, math.MaxInt - 1} {
		for n := range mostAside*mostAside + 2 {
			wantZero(t, impl.PictureBytes, wrong, 1, alikeRow(n, 7))
			wantZero(t, impl.PictureBytes, 1, wrong, alikeRow(n, 7))
			wantZero(t, impl.PictureBytes, wrong, wrong, alikeRow(n, 7))
			wantZero(t, impl.PictureBytes, mostAside, wrong, alikeRow(n, 7))
		}
	}
	for w := 1; w <= mostAside; w++ {
		for h := 1; h <= mostAside; h++ {
			for _, n := range []int{0, w*h - 1, w*h + 1, 2 * w * h, 3000} {
				wantZero(t, impl.PictureBytes, w, h, alikeRow(n, 7))
			}
		}
	}
}

func TestPromise19WrongBytesInPictures(t *testing.T) {
	for _, wrong := range wrongBytes() {
		for at := range 6 {
			bytes := []int{0, 255, 10, 32, 128, 7}
			bytes[at] = wrong
			wantZero(t, impl.PictureBytes, 2, 3, bytes)
			wantZero(t, impl.PictureBytes, 6, 1, bytes)
			wantZero(t, impl.RunsOf, bytes)
		}
	}
}

// Lists that are pieces of a longer one, and one list as both rows: no call reads or writes what lies behind, or ahead.
func TestPromise19RowsInOneMemory(t *testing.T) {
	row := []int{0, 0, 255, 7, 7, 7, 0, -1, 256}
	l := append(likes(2, 0, 1, 255, 3, 7, 1, 0, 90, 1), likes(0, 1, -5, 300)...)
	keptRow, kept := slices.Clone(row), slices.Clone(l)
	for from := range 8 {
		for to := from; to <= 7; to++ {
			wantDirectly(t, impl.RunsOf, watchTold(t, impl.RunsOf, slices.Clone(keptRow[from:to])), row[from:to])
			if to > from {
				wantDirectly(t, impl.PictureBytes, watchTold(t, impl.PictureBytes, to-from, 1, slices.Clone(keptRow[from:to])), to-from, 1, row[from:to])
			}
		}
	}
	for from := range 6 {
		for to := from; to <= 5; to++ {
			for _, f := range callsOfRuns() {
				wantDirectly(t, f, watchTold(t, f, slices.Clone(kept[from:to])), l[from:to])
			}
			// Both rows in one memory: one piece twice, one behind the other, and one within the other.
			for _, both := range [][][]impl.Run{{l[from:to], l[from:to]}, {l[:from], l[from:to]}, {l[from:to], l[:from]}, {l[from:to], l[from : from+(to-from)/2]}} {
				want := watch(t, impl.JoinRuns, slices.Clone(both[0]), slices.Clone(both[1]))
				wantDirectly(t, impl.JoinRuns, want, both[0], both[1])
			}
		}
	}
	if !slices.Equal(row, keptRow) || !slices.Equal(l, kept) {
		t.Fatalf("written into: %v %v", row, l)
	}
}

// What is told is new at each call: what is written into it is not seen in the arguments, nor in what is told again.
func TestPromise19RowsToldAnew(t *testing.T) {
	r := fixed(218)
	for n := range impl.MaxRow + 1 {
		row := someRow(r, n)
		a, b := plainRuns(row[:n/3]), plainRuns(row[n/3:])
		whole := plainRuns(row)
		keptRow, keptA, keptB, keptWhole := slices.Clone(row), slices.Clone(a), slices.Clone(b), slices.Clone(whole)
		for _, tell := range []func() ([]impl.Run, bool){
			func() ([]impl.Run, bool) { return impl.RunsOf(row) },
			func() ([]impl.Run, bool) { return impl.ReadRuns(plainText(whole)) },
			func() ([]impl.Run, bool) { return impl.JoinRuns(a, b) },
			func() ([]impl.Run, bool) { return impl.JoinRuns(whole, nil) },
			func() ([]impl.Run, bool) { return impl.JoinRuns(nil, whole) },
		} {
			first, ok := tell()
			wantRuns(t, "first", row, first, ok, keptWhole)
			for i := range first {
				first[i] = impl.Run{Value: -7, Many: -7}
			}
			_ = append(first, impl.Run{Value: -8, Many: -8})
			again, ok := tell()
			wantRuns(t, "again", row, again, ok, keptWhole)
		}
		for _, tell := range []func() ([]int, bool){
			func() ([]int, bool) { return impl.FromRuns(whole) },
			func() ([]int, bool) {
				_, _, bytes, ok := impl.ReadPicture(plainPicture(1, 3, []int{1, 2, 3}))
				return bytes, ok
			},
		} {
			first, ok := tell()
			same := slices.Clone(first)
			for i := range first {
				first[i] = -7
			}
			_ = append(first, -8)
			again, is := tell()
			wantInts(t, "again", row, again, ok && is, same)
		}
		if !slices.Equal(row, keptRow) || !slices.Equal(a, keptA) || !slices.Equal(b, keptB) || !slices.Equal(whole, keptWhole) {
			t.Fatalf("written into: %v %v %v %v", row, a, b, whole)
		}
	}
}

// Behind its length an answer has no memory that a later append would show.
func TestPromise19NothingBehindRows(t *testing.T) {
	r := fixed(219)
	for n := range impl.MaxRow + 1 {
		row := someRow(r, n)
		l := plainRuns(row)
		w, h, bytes := somePicture(r)
		for _, list := range []told{
			watchTold(t, impl.RunsOf, row), watchTold(t, impl.FromRuns, l), watchTold(t, impl.ReadRuns, plainText(l)), watchTold(t, impl.JoinRuns, plainRuns(row[:n/2]), plainRuns(row[n/2:])),
			watchTold(t, impl.ReadPicture, plainPicture(w, h, bytes))[2:],
		} {
			for i := list[0].Len(); i < list[0].Cap(); i++ {
				if behind := list[0].Slice(0, list[0].Cap()).Index(i); !behind.IsZero() {
					t.Errorf("of %v: behind %v lies %v", row, list[0], behind)
				}
			}
		}
	}
}
