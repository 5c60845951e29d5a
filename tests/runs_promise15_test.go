package tests

import (
	"slices"
	"testing"

	"loop.example/g00409/impl"
)

// rowComesBack: promise 15, a row comes back from its runs, and they from their text. It answers the text.
func rowComesBack(t *testing.T, row []int) string {
	t.Helper()
	l, ok := impl.RunsOf(row)
	if !ok || !impl.GoodRuns(l) {
		t.Fatalf("RunsOf %v: %v %v", row, l, ok)
	}
	back, ok := impl.FromRuns(l)
	wantInts(t, "FromRuns of RunsOf", row, back, ok, row)
	s, ok := impl.RunsText(l)
	if !ok {
		t.Fatalf("RunsText %v: refused", l)
	}
	again, ok := impl.ReadRuns(s)
	wantRuns(t, "ReadRuns of RunsText", l, again, ok, l)
	return s
}

// runsComeBack: promise 15 from the runs on: they come back from their row, and from their text.
func runsComeBack(t *testing.T, l []impl.Run) {
	t.Helper()
	row, ok := impl.FromRuns(l)
	if !ok {
		t.Fatalf("FromRuns %v: refused", l)
	}
	back, ok := impl.RunsOf(row)
	wantRuns(t, "RunsOf of FromRuns", l, back, ok, l)
	s, ok := impl.RunsText(l)
	if !ok {
		t.Fatalf("RunsText %v: refused", l)
	}
	back, ok = impl.ReadRuns(s)
	wantRuns(t, "ReadRuns of RunsText", l, back, ok, l)
}

// textComesBack: promise 15 from the text on: what is read is told again just so. It answers whether it is read.
func textComesBack(t *testing.T, s string) bool {
	t.Helper()
	l, ok := impl.ReadRuns(s)
	if ok {
		again, is := impl.RunsText(l)
		wantText(t, "RunsText of ReadRuns", s, again, is, s)
		runsComeBack(t, l)
	}
	return ok
}

// pictureComesBack: promise 15, a picture comes back from its file. It answers the file.
func pictureComesBack(t *testing.T, w, h int, bytes []int) string {
	t.Helper()
	s, ok := impl.PictureBytes(w, h, bytes)
	if !ok {
		t.Fatalf("PictureBytes %d %d %v: refused", w, h, bytes)
	}
	gotW, gotH, back, ok := impl.ReadPicture(s)
	wantInts(t, "ReadPicture of PictureBytes", s, back, ok, bytes)
	wantInts(t, "the sides of PictureBytes", s, []int{gotW, gotH}, ok, []int{w, h})
	return s
}

// fileComesBack: promise 15 from the file on: what is read is told again just so. It answers whether it is read.
func fileComesBack(t *testing.T, s string) bool {
	t.Helper()
	w, h, bytes, ok := impl.ReadPicture(s)
	if ok {
		again, is := impl.PictureBytes(w, h, bytes)
		wantText(t, "PictureBytes of ReadPicture", s, again, is, s)
	}
	return ok
}

func TestPromise15RowsFromTheirRuns(t *testing.T) {
	r := fixed(212)
	for _, c := range runsRows() {
		rowComesBack(t, c.row)
	}
	for n := range impl.MaxRow + 1 {
		for _, row := range [][]int{alikeRow(n, 0), alikeRow(n, 255), unlikeRow(n), someRow(r, n), someRow(r, n), someRow(r, n)} {
			rowComesBack(t, row)
		}
	}
	for b := range 256 {
		for _, row := range [][]int{{b}, {b, b, b}, {0, b, 255}, {b, 77, b}, {b, b, 255 - b}} {
			rowComesBack(t, row)
		}
	}
}

// Unlike rows have unlike runs, and unlike texts.
func TestPromise15EachRowHasATextOfItsOwn(t *testing.T) {
	had := map[string][]int{}
	for _, row := range append(rowsOver(8, 0, 11), rowsOver(4, 1, 10, 111)...) {
		s := rowComesBack(t, row)
		if other, is := had[s]; is && !slices.Equal(other, row) {
			t.Fatalf("%q is the text of %v and of %v", s, row, other)
		}
		had[s] = row
	}
}

func TestPromise15RunsFromTheirRows(t *testing.T) {
	r := fixed(213)
	for _, l := range edgeRuns() {
		runsComeBack(t, l)
	}
	for range 2000 {
		runsComeBack(t, plainRuns(someRow(r, r.IntN(impl.MaxRow+1))))
	}
	for n := 1; n < impl.MaxRow; n++ {
		runsComeBack(t, likes(n, 255))
		runsComeBack(t, likes(n, 0, impl.MaxRow-n, 1))
	}
}

// Of all texts near to one that is read just those come back that are told so.
func TestPromise15RunsFromTheirTexts(t *testing.T) {
	read := map[bool]int{}
	for _, c := range runsRows() {
		for _, near := range textsNear(c.text, []byte("\x00\n +,-0159xX\x80\xff")) {
			read[textComesBack(t, near)]++
		}
		if !textComesBack(t, c.text) {
			t.Errorf("%s: ReadRuns %q: refused", c.why, c.text)
		}
	}
	for _, c := range wrongRunTexts() {
		if textComesBack(t, c.text) {
			t.Errorf("%s: ReadRuns %q: told", c.why, c.text)
		}
	}
	if read[true] < 300 || read[false] < 3000 {
		t.Error("read and not:", read)
	}
}

func TestPromise15PicturesFromTheirFiles(t *testing.T) {
	r := fixed(214)
	for _, c := range pictureRows() {
		pictureComesBack(t, c.w, c.h, c.bytes)
	}
	for range 1000 {
		w, h, bytes := somePicture(r)
		pictureComesBack(t, w, h, bytes)
	}
	// Bytes of every value, in every hundred of them that stand together.
	all := append(allNumbers(256), allNumbers(256)...)
	for from := range 256 {
		pictureComesBack(t, mostAside, mostAside, all[from:from+impl.MaxRow])
		pictureComesBack(t, 1, 3, all[from:from+3])
	}
}

// One row of bytes has a file of its own for each two sides that fit it.
func TestPromise15EachPictureHasAFileOfItsOwn(t *testing.T) {
	had := map[string][]int{}
	for w := 1; w <= mostAside; w++ {
		for h := 1; h <= mostAside; h++ {
			for _, bytes := range [][]int{alikeRow(w*h, '1'), alikeRow(w*h, 10), unlikeRow(w * h)} {
				s := pictureComesBack(t, w, h, bytes)
				is := append([]int{w, h}, bytes...)
				if other, known := had[s]; known && !slices.Equal(other, is) {
					t.Fatalf("%q is the file of %v and of %v", s, is, other)
				}
				had[s] = is
			}
		}
	}
}

func TestPromise15FilesThatAreRead(t *testing.T) {
	read := map[bool]int{}
	for _, c := range pictureRows() {
		for _, near := range textsNear(c.text, []byte("\x00\n\r 0125P\x7f\x80\xff")) {
			read[fileComesBack(t, near)]++
		}
		if !fileComesBack(t, c.text) {
			t.Errorf("%s: ReadPicture %q: refused", c.why, c.text)
		}
	}
	for _, c := range wrongPictureTexts() {
		if fileComesBack(t, c.text) {
			t.Errorf("%s: ReadPicture %q: told", c.why, c.text)
		}
	}
	if read[true] < 1000 || read[false] < 5000 {
		t.Error("read and not:", read)
	}
}

// A row that is cut at any place has as its runs those of both parts, joined.
func TestPromise15JoinedPartsAreTheRow(t *testing.T) {
	r := fixed(215)
	rows := append(rowsOver(6, 0, 255), alikeRow(impl.MaxRow, 0), alikeRow(impl.MaxRow, 9), unlikeRow(impl.MaxRow))
	for n := range impl.MaxRow + 1 {
		rows = append(rows, someRow(r, n))
	}
	for _, row := range rows {
		whole, ok := impl.RunsOf(row)
		if !ok {
			t.Fatalf("RunsOf %v: refused", row)
		}
		for at := range len(row) + 1 {
			before, ok := impl.RunsOf(row[:at])
			behind, is := impl.RunsOf(row[at:])
			joined, told := impl.JoinRuns(before, behind)
			wantRuns(t, "JoinRuns of parts", row, joined, ok && is && told, whole)
			back, told := impl.FromRuns(joined)
			wantInts(t, "FromRuns of JoinRuns", row, back, told, row)
		}
	}
}

// Three rows in a row are the same, whichever two are joined first.
func TestPromise15JoinedInAnyOrder(t *testing.T) {
	r := fixed(216)
	told := 0
	for range 2000 {
		a, b, c := plainRuns(someRow(r, r.IntN(45))), plainRuns(someRow(r, r.IntN(45))), plainRuns(someRow(r, r.IntN(45)))
		ab, ok := impl.JoinRuns(a, b)
		bc, is := impl.JoinRuns(b, c)
		if !ok || !is {
			t.Fatalf("JoinRuns %v %v %v: refused", a, b, c)
		}
		one, ok := impl.JoinRuns(ab, c)
		other, is := impl.JoinRuns(a, bc)
		if ok != is || !slices.Equal(one, other) {
			t.Fatalf("JoinRuns %v %v %v: %v %v, and %v %v", a, b, c, one, ok, other, is)
		}
		if ok {
			told++
			runsComeBack(t, one)
		}
	}
	if told < 500 || told == 2000 {
		t.Error("told:", told)
	}
}
