package tests

import (
	"math/big"
	"slices"
	"testing"

	"loop.example/g00409/impl"
)

// partsOf are all windows within one, the window itself among them.
func partsOf(w impl.Window) []impl.Window {
	parts := []impl.Window{}
	for _, p := range squaresRowByRow(w) {
		for wide := 1; p.X+wide <= w.X+w.W; wide++ {
			for high := 1; p.Y+high <= w.Y+w.H; high++ {
				if part := windowOf(p.X, p.Y, wide, high); isGoodWindow(part) {
					parts = append(parts, part)
				}
			}
		}
	}
	return parts
}

// checkPart: promise 17, the picture of a part is that part of the window's picture, square by square; so are shares, files and rows.
func checkPart(t *testing.T, s string, w, part impl.Window) {
	t.Helper()
	bytes, ok := impl.PictureFor(s, w)
	shares, is := impl.SharesFor(s, w)
	if !ok || !is {
		t.Fatalf("%q %v: refused", s, w)
	}
	cropped, ok := impl.CropOf(w, bytes, part)
	if !ok || !slices.Equal(cropped, plainCrop(w, bytes, part)) {
		t.Fatalf("CropOf %v %v: %v %v", w, part, cropped, ok)
	}
	wantPicture(t, "a part", s, part, cropped)
	inPart := squaresRowByRow(part)
	ofPart := []impl.Rat{}
	for i, p := range squaresRowByRow(w) {
		if slices.Contains(inPart, p) {
			ofPart = append(ofPart, shares[i])
		}
	}
	wantShares(t, "a part", s, part, ofPart)
}

func TestPromise17AllPartsOfAWindow(t *testing.T) {
	r := fixed(242)
	for range 6 {
		s := somePathAbout(r)
		w := windowOf(r.IntN(6)-5, r.IntN(6)-5, 1+r.IntN(4), 1+r.IntN(4))
		for _, part := range partsOf(w) {
			checkPart(t, s, w, part)
		}
	}
	for _, c := range drawnRows() {
		for i, part := range partsOf(c.w) {
			if i%3 == 0 {
				checkPart(t, c.path, c.w, part)
			}
		}
	}
}

func TestPromise17SomePartsOfGreatWindows(t *testing.T) {
	r := fixed(243)
	for range 25 {
		s, w := somePathAbout(r), windowOf(r.IntN(5)-6, r.IntN(5)-6, impl.MaxWindow-r.IntN(2), impl.MaxWindow-r.IntN(2))
		for range 3 {
			checkPart(t, s, w, somePart(r, w))
		}
		// One square alone, at each corner.
		for _, p := range wayOf(w.X, w.Y, w.X+w.W-1, w.Y, w.X, w.Y+w.H-1, w.X+w.W-1, w.Y+w.H-1) {
			checkPart(t, s, w, windowOf(p.X, p.Y, 1, 1))
		}
	}
}

func TestPromise17PartsOfTheFarthestWindows(t *testing.T) {
	r := fixed(244)
	for _, w := range edgeWindows() {
		s := somePathWithin(r, w)
		checkPart(t, s, w, w)
		checkPart(t, s, w, somePart(r, w))
		checkPart(t, "M -900 -901 L 902 -3 L 5 907 Z M 0 -1000 V 1000 H -77 Z", w, somePart(r, w))
	}
}

// Rows of the whole window are those of its rows alone, and pictures of two halves are the whole one's.
func TestPromise17RowsAndHalves(t *testing.T) {
	r := fixed(245)
	for range 25 {
		s, w := somePathAbout(r), windowOf(r.IntN(5)-6, r.IntN(5)-6, 2+r.IntN(6), 2+r.IntN(6))
		rows, ok := impl.RowsFor(s, w)
		alone := []string{}
		for y := w.Y; y < w.Y+w.H; y++ {
			row, is := impl.RowsFor(s, windowOf(w.X, y, w.W, 1))
			if !is || len(row) != 1 {
				t.Fatalf("RowsFor %q, the row %d: %q %v", s, y, row, is)
			}
			alone = append(alone, row...)
		}
		if !ok || !slices.Equal(rows, alone) {
			t.Fatalf("RowsFor %q %v: %q %v, row by row %q", s, w, rows, ok, alone)
		}
		at := 1 + r.IntN(w.H-1)
		low, ok := impl.PictureFor(s, windowOf(w.X, w.Y, w.W, at))
		high, is := impl.PictureFor(s, windowOf(w.X, w.Y+at, w.W, w.H-at))
		bytes, both := impl.PictureFor(s, w)
		if !ok || !is {
			t.Fatalf("PictureFor %q, halves of %v: refused", s, w)
		}
		wantInts(t, "PictureFor", []any{s, w}, bytes, both, slices.Concat(low, high))
	}
}

// checkInked: promise 17, what is inked is what the squares of a window have, where all lies within.
func checkInked(t *testing.T, s string, w impl.Window) {
	t.Helper()
	fits, ok := impl.FitsWindow(s, w)
	wantFlag(t, "FitsWindow "+s, w, fits, ok, true)
	ink, ok := impl.InkOf(s)
	shares, is := impl.SharesFor(s, w)
	if !ok || !is {
		t.Fatalf("%q %v: refused", s, w)
	}
	together := new(big.Rat)
	for _, a := range shares {
		together.Add(together, plainRat(a))
	}
	wantRat(t, "InkOf "+s, ink, ok, together)
	if sum, ok := impl.SumOf(shares); ok {
		wantRat(t, "SumOf SharesFor "+s, sum, ok, plainRat(ink))
	} else {
		t.Fatalf("SumOf SharesFor %q %v: refused", s, w)
	}
}

func TestPromise17WhatIsInked(t *testing.T) {
	r := fixed(246)
	for range 120 {
		w := somePlacedWindow(r)
		checkInked(t, somePathWithin(r, w), w)
	}
	for _, w := range edgeWindows() {
		checkInked(t, somePathWithin(r, w), w)
		checkInked(t, pathOf(t, wayOf(w.X, w.Y, w.X+w.W, w.Y, w.X+w.W, w.Y+w.H, w.X, w.Y+w.H)), w)
	}
	for _, c := range fitRows() {
		if c.want {
			checkInked(t, c.path, c.w)
		}
	}
}

// In whatever window all lies, it has the same ink, also with room about it.
func TestPromise17InkInAllWindowsThatHaveIt(t *testing.T) {
	r := fixed(247)
	for range 8 {
		s := somePathWithin(r, windowOf(-1, -1, 3, 2))
		for x := -5; x <= -1; x += 2 {
			for y := -6; y <= -1; y++ {
				checkInked(t, s, windowOf(x, y, 2-x+r.IntN(2), 1-y+r.IntN(2)))
			}
		}
	}
}

// Where it does not lie within one window, all that have it have its ink together.
func TestPromise17InkInFourWindows(t *testing.T) {
	r := fixed(248)
	without := 0
	for range 25 {
		s := pathOf(t, someWalk(r, 1+r.IntN(2), 7)...)
		ink, ok := impl.InkOf(s)
		if !ok {
			t.Fatalf("InkOf %q: refused", s)
		}
		together, fits := new(big.Rat), false
		for _, w := range []impl.Window{windowOf(-8, -8, 8, 8), windowOf(0, -8, 8, 8), windowOf(-8, 0, 8, 8), windowOf(0, 0, 8, 8)} {
			shares, ok := impl.SharesFor(s, w)
			if !ok {
				t.Fatalf("SharesFor %q %v: refused", s, w)
			}
			for _, a := range shares {
				together.Add(together, plainRat(a))
			}
			fits = fits || checkFits(t, s, w)
		}
		wantRat(t, "InkOf "+s, ink, ok, together)
		if !fits {
			without++
		}
	}
	if without < 20 {
		t.Error("too few that are in no window alone:", without)
	}
}
