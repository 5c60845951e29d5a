package tests

import (
	"reflect"
	"runtime"
	"slices"
	"strings"
	"sync"
	"testing"

	"loop.example/g00409/impl"
)

// watchDrawn wants all to be told.
func watchDrawn(t *testing.T, s string, w impl.Window) {
	t.Helper()
	for _, f := range callsOfPicture() {
		watchTold(t, f, s, w)
	}
	watchTold(t, impl.InkOf, s)
}

// wantUndrawn wants the zero answer of all that take a window.
func wantUndrawn(t *testing.T, s string, w impl.Window) {
	t.Helper()
	for _, f := range callsOfPicture() {
		wantZero(t, f, s, w)
	}
}

// wantNoPath wants the zero answer of all functions, whatever the window is.
func wantNoPath(t *testing.T, s string) {
	t.Helper()
	wantZero(t, impl.InkOf, s)
	for _, w := range []impl.Window{windowOf(0, 0, 1, 1), windowOf(-20, 20, 8, 8), windowOf(0, 0, 2, 3), {}} {
		wantUndrawn(t, s, w)
	}
}

func TestPromise19GoodPictures(t *testing.T) {
	r := fixed(249)
	for _, c := range drawnRows() {
		watchDrawn(t, c.path, c.w)
	}
	for _, c := range fitRows() {
		watchDrawn(t, c.path, c.w)
	}
	for _, c := range pathRows() {
		watchDrawn(t, c.path, someWindow(r))
	}
	for _, w := range edgeWindows() {
		watchDrawn(t, somePathWithin(r, w), w)
		watchDrawn(t, "M -30 -31 L 32 -3 L 5 37 Z", w)
	}
	for range 60 {
		watchDrawn(t, somePathAbout(r), someWindow(r))
	}
}

func TestPromise19LongPictures(t *testing.T) {
	for _, row := range longDrawings() {
		s := pathOf(t, row.ways...)
		for _, w := range []impl.Window{longSquare, windowOf(8, 9, 2, 1)} {
			wantTaken(t, row.want != nothingDrawn, impl.SharesFor, s, w)
			for _, f := range []any{impl.PictureFor, impl.FileFor, impl.RowsFor} {
				wantTaken(t, row.want == allDrawn, f, s, w)
				if row.want != allDrawn {
					wantZero(t, f, s, w)
				}
			}
			if row.want == nothingDrawn {
				wantZero(t, impl.SharesFor, s, w)
			}
			watchTold(t, impl.FitsWindow, s, w)
		}
		watchTold(t, impl.InkOf, s)
		watchDrawn(t, s, windowOf(-3, 3, 2, 3))
	}
}

func TestPromise19PicturesOfWrongPaths(t *testing.T) {
	for _, c := range faultRows() {
		wantNoPath(t, c.path)
	}
	for _, wrong := range wrongLetters() {
		wantNoPath(t, wrong.text)
		wantNoPath(t, "M 0 0 "+wrong.text+" 1 V 1 Z")
		wantNoPath(t, "M 0 0 H 1 V 1 Z "+wrong.text)
	}
	for _, wrong := range append(wrongNumberTexts(), wrongNumbersBeside()...) {
		wantNoPath(t, "M 0 0 H "+wrong.text+" V 1 Z")
		wantNoPath(t, "M 0 0 H 1 V 1 Z M "+wrong.text+" 0 H 1 V 1 Z")
	}
	for _, s := range []string{"", strings.Repeat("M 0 0 H 1 V 1 Z ", 26) + "M 0 0 H 1 V 1 Z", strings.Repeat(" ", impl.MaxPath), strings.Repeat("Z", 100000), strings.Repeat("M 0 0 ", 50000)} {
		wantNoPath(t, s)
	}
}

// Any bytes: whatever ParsePath tells no way of has no picture.
func TestPromise19PicturesOfAnyBytes(t *testing.T) {
	w := windowOf(-1, 0, 2, 1)
	many := map[bool]int{}
	for _, s := range []string{"M 0 0 H 1 V 1 Z", "M 1 0 l -2 3 h 4 Z M 0 1 v 1 h 1 Z"} {
		for i, near := range textsNear(s, allBytes()) {
			if i%5 != 0 {
				continue
			}
			_, code, _ := plainParse(near)
			many[code == 0]++
			if code == 0 {
				watchDrawn(t, near, w)
				continue
			}
			wantUndrawn(t, near, w)
			wantZero(t, impl.InkOf, near)
		}
	}
	if many[true] < 20 || many[false] < 1000 {
		t.Error("paths and others:", many)
	}
	r := fixed(250)
	for range 300 {
		s := make([]byte, r.IntN(40))
		for i := range s {
			s[i] = byte(r.IntN(256))
			if r.IntN(2) == 0 {
				s[i] = " MLZHV01-"[r.IntN(9)]
			}
		}
		if _, code, _ := plainParse(string(s)); code != 0 {
			wantNoPath(t, string(s))
		}
	}
}

func TestPromise19PicturesInWrongWindows(t *testing.T) {
	for _, wrong := range wrongWindows() {
		for _, s := range []string{"M 0 0 H 1 V 1 Z", "M -1000 -1000 H 1000 V 1000 H -1000 Z", "M 0 0 h 0 v 0 Z", "M 900 900 h 1 v 1 Z", "M 0 0 H 1 V 1 Z M 0 0 H 1 V 1 Z M 0 0 H 1 V 1 Z M 0 0 H 1 V 1 Z"} {
			wantUndrawn(t, s, wrong)
			watchTold(t, impl.InkOf, s)
		}
		// Nor do both wrong arguments make it right.
		wantUndrawn(t, "", wrong)
		wantUndrawn(t, "M 0 0 H 1 V 1", wrong)
		wantUndrawn(t, pathOf(t, longWays()...), wrong)
	}
}

// A picture that is given up leaves nothing behind: what is told next is what would have been told first.
func TestPromise19PicturesGivenUp(t *testing.T) {
	w := windowOf(8, 8, 2, 2)
	fine, long, just := "M 8 8 h 2 v 1 Z M 9 9 l 1 1 v -1 Z", pathOf(t, longWays()...), pathOf(t, justLongWays()...)
	first := []told{}
	for _, f := range callsOfPicture() {
		first = append(first, watchTold(t, f, fine, w))
	}
	for _, other := range []string{long, just, "", "M 8 8 h 2 v 1 Z M", fine + " M 0 0 Z"} {
		for i, f := range callsOfPicture() {
			for _, g := range callsOfPicture() {
				watch(t, g, other, w)
				watch(t, g, fine, impl.Window{})
				wantDirectly(t, f, first[i], fine, w)
			}
		}
	}
}

// Nothing is kept between calls, and nothing is given up for others: many at once tell each what it would tell alone.
func TestPromise19ManyPicturesAtOnce(t *testing.T) {
	w := windowOf(8, 8, 2, 2)
	paths := []string{"M 8 8 h 2 v 1 Z M 9 9 l 1 1 v -1 Z", pathOf(t, longWays()...), "M 0 0 H 1", "M 0 0 L 40 39 V 0 Z", pathOf(t, justLongWays()...), ""}
	calls := callsOfPicture()
	want := map[string][]told{}
	for _, s := range paths {
		for _, f := range calls {
			want[s] = append(want[s], watch(t, f, s, w))
		}
	}
	before := runtime.NumGoroutine()
	var all sync.WaitGroup
	for at := range 24 {
		all.Go(func() {
			for i := range calls {
				s := paths[(at+i)%len(paths)]
				got := told(reflect.ValueOf(calls[i]).Call(valuesOf([]any{s, w})))
				if !sameTold(got, want[s][i]) {
					t.Errorf("%s %q at once: %v, want %v", nameOf(calls[i]), s, got, want[s][i])
				}
			}
		})
	}
	all.Wait()
	for range 50 {
		for _, s := range paths {
			wantDirectly(t, impl.SharesFor, want[s][0], s, w)
		}
	}
	if now := runtime.NumGoroutine(); now > before {
		t.Errorf("%d go on", now-before)
	}
}

// What is told is new at each call: what is written into it is not seen when it is told again.
func TestPromise19PicturesToldAnew(t *testing.T) {
	r := fixed(251)
	for range 30 {
		s, w := somePathAbout(r), someWindow(r)
		shares, _ := impl.SharesFor(s, w)
		ink, _ := impl.InkOf(s)
		bytes, _ := impl.PictureFor(s, w)
		rows, _ := impl.RowsFor(s, w)
		keptShares, keptInk, keptBytes, keptRows := clonePoly(shares), cloneRat(ink), slices.Clone(bytes), slices.Clone(rows)
		spoilRats(shares)
		spoilRats([]impl.Rat{ink})
		for i := range bytes {
			bytes[i] = -7
		}
		for i := range rows {
			rows[i] = "spoilt"
		}
		_, _ = append(bytes, -8), append(rows, "more")
		wantShares(t, "again", s, w, keptShares)
		wantPicture(t, "again", s, w, keptBytes)
		wantRows(t, "again", s, w, keptRows)
		again, ok := impl.InkOf(s)
		wantRat(t, "InkOf again", again, ok, plainRat(keptInk))
	}
}

// One share of an answer may be written into without any other one being changed, also where all are alike, or 0.
func TestPromise19SharesOfAPictureApart(t *testing.T) {
	w := windowOf(0, 0, 3, 2)
	for _, s := range []string{"M 0 0 H 3 V 2 H 0 Z", "M 0 0 H 3 V 2 H 0 Z M 0 0 H 3 V 2 H 0 Z", "M 9 9 h 1 v 1 Z", "M 0 0 H 3 V 2 H 0 Z M 0 0 V 2 H 3 V 0 Z", "M 0 0 H 3 V 2 Z"} {
		kept, ok := impl.SharesFor(s, w)
		for i := range kept {
			shares, is := impl.SharesFor(s, w)
			want := clonePoly(shares)
			want[i] = impl.Rat{}
			spoilRats(shares[i : i+1 : i+1])
			if !ok || !is || !samePoly(shares, want) {
				t.Fatalf("share %d written into: %v, want %v", i, shares, want)
			}
		}
	}
}

// Behind its length an answer has no memory that a later append would show.
func TestPromise19NothingBehindPictures(t *testing.T) {
	r := fixed(252)
	for range 60 {
		s, w := somePathAbout(r), someWindow(r)
		for _, f := range []any{impl.SharesFor, impl.PictureFor, impl.RowsFor} {
			list := watchTold(t, f, s, w)[0]
			for i := list.Len(); i < list.Cap(); i++ {
				if behind := list.Slice(0, list.Cap()).Index(i); !behind.IsZero() {
					t.Errorf("%s %q %v: behind %v lies %v", nameOf(f), s, w, list, behind)
				}
			}
		}
	}
}
