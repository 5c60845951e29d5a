package tests

import (
	"fmt"
	"math"
	"slices"
	"strings"
	"testing"

	"loop.example/g00409/impl"
)

// Rows of no byte, of one, of all that may be, and of more.
func TestRunsOfRowsByLength(t *testing.T) {
	for _, n := range append(allNumbers(impl.MaxRow+20), 2*impl.MaxRow, 3000) {
		for _, row := range [][]int{alikeRow(n, 0), alikeRow(n, 255), alikeRow(n, 7), unlikeRow(n)} {
			if told := checkRow(t, row); told != (n <= impl.MaxRow) {
				t.Fatalf("RunsOf a row of %d bytes: %v", n, told)
			}
			l := plainRuns(row)
			if good := checkRuns(t, l); good != (n <= impl.MaxRow) {
				t.Fatalf("the runs of a row of %d bytes: %v", n, good)
			}
			if told := checkRead(t, plainText(l)); told != (n <= impl.MaxRow) {
				t.Fatalf("ReadRuns of a row of %d bytes: %v", n, told)
			}
		}
	}
}

func TestRunsOfEachByte(t *testing.T) {
	for b := -300; b <= 600; b++ {
		good := b >= 0 && b <= 255
		for _, row := range [][]int{{b}, {b, b}, {1, b, 1}, append(alikeRow(impl.MaxRow-1, 3), b)} {
			if checkRow(t, row) != good {
				t.Fatalf("RunsOf %v: not %v", row, good)
			}
			if checkRuns(t, plainRuns(row)) != good {
				t.Fatalf("the runs of %v: not %v", row, good)
			}
		}
		if checkRead(t, fmt.Sprintf("1x%d", b)) != good || checkRead(t, fmt.Sprintf("1x300,1x%d", b)) {
			t.Fatalf("ReadRuns of Value %d: not %v", b, good)
		}
		if checkPicture(t, 1, 1, []int{b}) != good || checkPicture(t, 2, 3, []int{1, 2, 3, 4, 5, b}) != good || checkPicture(t, 3, 1, []int{b, 0, 255}) != good {
			t.Fatalf("PictureBytes with %d: not %v", b, good)
		}
	}
}

func TestRunsOfWrongRows(t *testing.T) {
	for _, row := range wrongRows() {
		if checkRow(t, row) {
			t.Errorf("RunsOf %v: told", row)
		}
	}
	// One byte of a whole row is wrong.
	for at := range impl.MaxRow {
		for _, wrong := range wrongBytes() {
			row := alikeRow(impl.MaxRow, 9)
			row[at] = wrong
			if checkRow(t, row) || checkPicture(t, mostAside, mostAside, row) {
				t.Fatalf("RunsOf or PictureBytes with %d at %d: told", wrong, at)
			}
		}
	}
}

func TestRunsByMany(t *testing.T) {
	for n := -3; n <= 2*impl.MaxRow; n++ {
		good := n >= 1 && n <= impl.MaxRow
		if checkRuns(t, likes(n, 7)) != good || checkRuns(t, likes(n, 0)) != good || checkRead(t, fmt.Sprintf("%dx7", n)) != good {
			t.Fatalf("runs with Many %d: not %v", n, good)
		}
	}
	for n := range impl.MaxRow + 3 {
		for m := range impl.MaxRow + 3 {
			good := n >= 1 && m >= 1 && n+m <= impl.MaxRow
			if checkRuns(t, likes(n, 1, m, 0)) != good || checkRead(t, fmt.Sprintf("%dx1,%dx0", n, m)) != good {
				t.Fatalf("runs with Many %d and %d: not %v", n, m, good)
			}
			if checkRuns(t, likes(n, 1, m, 1)) || checkRead(t, fmt.Sprintf("%dx1,%dx1", n, m)) {
				t.Fatalf("runs with Many %d and %d of one Value: good", n, m)
			}
		}
	}
}

func TestJoinByMany(t *testing.T) {
	some := func(n, value int) []impl.Run { return plainRuns(alikeRow(n, value)) }
	for n := range impl.MaxRow + 1 {
		for m := range impl.MaxRow + 1 {
			good := n+m <= impl.MaxRow
			if checkJoin(t, some(n, 0), some(m, 0)) != good || checkJoin(t, some(n, 0), some(m, 255)) != good {
				t.Fatalf("JoinRuns of %d and %d: not %v", n, m, good)
			}
		}
		for _, m := range []int{impl.MaxRow - n, impl.MaxRow - n + 1} {
			row := unlikeRow(n + m)
			good := n+m <= impl.MaxRow
			if checkJoin(t, plainRuns(row[:n]), plainRuns(row[n:])) != good {
				t.Fatalf("JoinRuns of %d and %d unlike their neighbours: not %v", n, m, good)
			}
		}
	}
}

func TestJoinWrongRuns(t *testing.T) {
	for _, wrong := range wrongRuns() {
		for _, good := range [][]impl.Run{nil, likes(1, 7), likes(2, 0, 1, 255), likes(impl.MaxRow, 3), likes(5, 5)} {
			if checkJoin(t, wrong, good) || checkJoin(t, good, wrong) {
				t.Errorf("JoinRuns of %v and %v: told", wrong, good)
			}
		}
		if checkJoin(t, wrong, wrong) {
			t.Errorf("JoinRuns of %v twice: told", wrong)
		}
	}
}

func TestPictureBySides(t *testing.T) {
	told := map[bool]int{}
	for w := -12; w <= 22; w++ {
		for h := -12; h <= 22; h++ {
			good := w >= 1 && w <= mostAside && h >= 1 && h <= mostAside
			for _, n := range []int{w * h, w*h - 1, w*h + 1, -w * h, 0, 1, w, h, w + h, mostAside * mostAside} {
				if n < 0 {
					continue
				}
				want := good && n == w*h
				if checkPicture(t, w, h, unlikeRow(n)) != want {
					t.Fatalf("PictureBytes of %d and %d with %d bytes: not %v", w, h, n, want)
				}
				if checkReadPicture(t, plainPicture(w, h, unlikeRow(n))) != want {
					t.Fatalf("ReadPicture of %d and %d with %d bytes: not %v", w, h, n, want)
				}
				told[want]++
			}
		}
	}
	if told[true] < 100 || told[false] < 5000 {
		t.Error("told and not:", told)
	}
}

// Sides whose product wraps round to a number of bytes that are there.
func TestPictureSidesThatWrapRound(t *testing.T) {
	for _, c := range [][]int{
		{1 << 32, 1 << 32}, {1 << 62, 4}, {4, 1 << 62}, {math.MinInt, 2}, {2, math.MinInt}, {math.MaxInt, math.MaxInt}, {math.MinInt, math.MinInt}, {math.MinInt + 1, math.MaxInt}, {math.MaxInt, -1},
		{-1, -1}, {-2, -3}, {-10, -10}, {math.MinInt + 1, math.MinInt + 1}, {1<<32 + 1, 1<<32 + 1},
		{20, 5}, {5, 20}, {100, 1}, {1, 100}, {50, 2}, {25, 4}, {11, 9}, {9, 11}, {0, 0}, {0, 7}, {7, 0}, {11, 11},
	} {
		for _, n := range []int{0, 1, 4, c[0] * c[1]} {
			if n < 0 || n > 200 {
				continue
			}
			if checkPicture(t, c[0], c[1], alikeRow(n, 7)) || checkReadPicture(t, plainPicture(c[0], c[1], alikeRow(n, 7))) {
				t.Errorf("a picture of %d and %d with %d bytes: told", c[0], c[1], n)
			}
		}
	}
}

func wrongPictureTexts() []wrongText {
	return []wrongText{
		{"no byte", ""}, {"a byte 10", "\n"}, {"a blank", " "}, {"a byte 0", "\x00"},
		{"a beginning", "P"}, {"no line's end", "P5"}, {"a line", "P5\n"}, {"no h", "P5\n1"}, {"nothing behind the blank", "P5\n1 "}, {"no line behind h", "P5\n1 1"}, {"an empty third line", "P5\n1 1\n"}, {"a third line without an end", "P5\n1 1\n255"}, {"no bytes", "P5\n1 1\n255\n"},
		{"another beginning", "P6\n1 1\n255\nA"}, {"a plain picture's beginning", "P2\n1 1\n255\nA"}, {"a small letter", "p5\n1 1\n255\nA"}, {"no beginning", "1 1\n255\nA"}, {"no P", "5\n1 1\n255\nA"}, {"a beginning twice", "P5\nP5\n1 1\n255\nA"}, {"a mark that is not seen ahead", "\ufeffP5\n1 1\n255\nA"}, {"a byte 10 ahead", "\nP5\n1 1\n255\nA"}, {"a blank ahead", " P5\n1 1\n255\nA"}, {"a number behind P5", "P55\n1 1\n255\nA"},
		{"a blank behind P5", "P5 \n1 1\n255\nA"}, {"a blank for the first byte 10", "P5 1 1\n255\nA"}, {"a blank for the second byte 10", "P5\n1 1 255\nA"}, {"a blank for the third byte 10", "P5\n1 1\n255 A"}, {"all in a line", "P5 1 1 255 A"}, {"a byte 13 for the first byte 10", "P5\r1 1\n255\nA"}, {"bytes 13 and 10", "P5\r\n1 1\r\n255\r\nA"}, {"a byte 13 at the head's end", "P5\n1 1\n255\r\nA"}, {"a byte 10 twice at the beginning", "P5\n\n1 1\n255\nA"}, {"a byte 10 twice behind h", "P5\n1 1\n\n255\nA"}, {"a byte 10 too many at the head's end", "P5\n1 1\n255\n\nA"}, {"nothing for the last byte 10", "P5\n1 1\n255A"}, {"nothing for the first byte 10", "P51 1\n255\nA"},
		{"w and h on lines of their own", "P5\n1\n1\n255\nA"}, {"two blanks", "P5\n1  1\n255\nA"}, {"a blank ahead of w", "P5\n 1 1\n255\nA"}, {"a blank behind h", "P5\n1 1 \n255\nA"}, {"a tab", "P5\n1\t1\n255\nA"}, {"no blank", "P5\n11\n255\nA"}, {"another mark for the blank", "P5\n1x1\n255\nA"}, {"a blank that is not plain", "P5\n1\u00a01\n255\nA"}, {"three numbers", "P5\n1 1 1\n255\nA"}, {"a remark", "P5\n# A\n1 1\n255\nA"}, {"a remark behind", "P5\n1 1 # A\n255\nA"},
		{"no w", "P5\n 1\n255\nA"}, {"no h, but a blank", "P5\n1 \n255\nA"}, {"no number", "P5\n \n255\nA"}, {"no second line", "P5\n255\nA"}, {"an empty second line", "P5\n\n255\nA"},
		{"254", "P5\n1 1\n254\nA"}, {"256", "P5\n1 1\n256\nA"}, {"65535", "P5\n1 1\n65535\nAA"}, {"a needless nought in 255", "P5\n1 1\n0255\nA"}, {"a sign at 255", "P5\n1 1\n+255\nA"}, {"25", "P5\n1 1\n25\nA"}, {"2555", "P5\n1 1\n2555\nA"}, {"a blank ahead of 255", "P5\n1 1\n 255\nA"}, {"a blank behind 255", "P5\n1 1\n255 \nA"}, {"no 255", "P5\n1 1\nA"}, {"255 twice", "P5\n1 1\n255\n255\nA"},
		{"a needless nought in w", "P5\n01 1\n255\nA"}, {"a needless nought in h", "P5\n1 01\n255\nA"}, {"a needless nought in 10", "P5\n010 1\n255\n0123456789"}, {"needless noughts in h of 10", "P5\n1 0010\n255\n0123456789"}, {"noughts for 0", "P5\n00 1\n255\n"},
		{"w of 0", "P5\n0 1\n255\n"}, {"h of 0", "P5\n1 0\n255\n"}, {"both 0", "P5\n0 0\n255\n"}, {"w of 0 and a byte", "P5\n0 1\n255\nA"}, {"w of 11", "P5\n11 1\n255\n0123456789A"}, {"h of 11", "P5\n1 11\n255\n0123456789A"}, {"w of 11, but ten bytes", "P5\n11 1\n255\n0123456789"}, {"both 11", "P5\n11 11\n255\n" + strings.Repeat("A", 121)}, {"w of 100", "P5\n100 1\n255\n" + strings.Repeat("A", 100)}, {"h of 100", "P5\n1 100\n255\n" + strings.Repeat("A", 100)}, {"20 times 5", "P5\n20 5\n255\n" + strings.Repeat("A", 100)},
		{"a sign at w", "P5\n+1 1\n255\nA"}, {"a sign at h", "P5\n1 +1\n255\nA"}, {"both below 0", "P5\n-1 -1\n255\nA"}, {"w below 0", "P5\n-1 1\n255\nA"}, {"h of less than 0", "P5\n1 -0\n255\n"}, {"a power", "P5\n1e0 1\n255\nA"}, {"parts of one", "P5\n1.0 1\n255\nA"}, {"digits to 16", "P5\na 1\n255\n0123456789"}, {"a stroke", "P5\n1_0 1\n255\n0123456789"},
		{"w that would wrap round to 1", "P5\n18446744073709551617 1\n255\nA"}, {"h that would wrap round to 1", "P5\n1 18446744073709551617\n255\nA"}, {"w that would wrap round in 32 bits", "P5\n4294967297 1\n255\nA"}, {"w too great for an int", "P5\n9223372036854775808 1\n255\nA"}, {"many digits in h", "P5\n1 1" + strings.Repeat("0", 3000) + "\n255\nA"},
		{"a digit that is not plain", "P5\n\uff11 1\n255\nA"}, {"one as h", "P5\n1 \u0661\n255\nA"}, {"a byte of 177 for 1", "P5\n\xb1 1\n255\nA"},
		{"a byte too many", "P5\n1 1\n255\nAB"}, {"a byte 10 too many", "P5\n1 1\n255\nA\n"}, {"a byte 0 too many", "P5\n1 1\n255\nA\x00"}, {"a byte too few", "P5\n2 1\n255\nA"}, {"a letter of two bytes", "P5\n1 1\n255\n\u00e9"}, {"a whole picture, and a byte more", "P5\n10 10\n255\n" + strings.Repeat("A", 101)}, {"a whole picture, and a byte less", "P5\n10 10\n255\n" + strings.Repeat("A", 99)}, {"two pictures", "P5\n1 1\n255\nAP5\n1 1\n255\nA"}, {"very many bytes", "P5\n10 10\n255\n" + strings.Repeat("A", 100000)},
		{"the runs of one", "1x65"},
	}
}

func TestReadPictureWrongTexts(t *testing.T) {
	for _, c := range wrongPictureTexts() {
		if w, h, bytes, ok := impl.ReadPicture(c.text); ok || w != 0 || h != 0 || len(bytes) > 0 {
			t.Errorf("%s: ReadPicture %q: %d %d %v %v", c.why, c.text, w, h, bytes, ok)
		}
		if checkReadPicture(t, c.text) {
			t.Errorf("%s: %q is read", c.why, c.text)
		}
	}
}

// Another byte, one more, or one less, at each place, and cut at each place: next to all is refused.
func TestReadPictureTextsNear(t *testing.T) {
	told := map[bool]int{}
	for _, c := range pictureRows() {
		bytes := allBytes()
		if len(c.text) > 40 {
			bytes = []byte("\x00\n\r 0125P\x7f\x80\xff")
		}
		for _, near := range textsNear(c.text, bytes) {
			told[checkReadPicture(t, near)]++
		}
	}
	if told[true] < 10000 || told[false] < 100000 {
		t.Error("read and not:", told)
	}
}

// A whole picture's head with another byte at each place.
func TestReadPictureHeads(t *testing.T) {
	body := strings.Repeat("A\n 5", 25)
	head := plainHead(mostAside, mostAside)
	if !checkReadPicture(t, head+body) {
		t.Fatalf("ReadPicture %q: refused", head+body)
	}
	for at := range len(head) {
		for _, b := range allBytes() {
			near := head[:at] + string([]byte{b}) + head[at+1:]
			if checkReadPicture(t, near+body) != (near == head) {
				t.Fatalf("ReadPicture of the head %q: not %v", near, near == head)
			}
		}
		if checkReadPicture(t, head[:at]) || checkReadPicture(t, head[:at]+body) || checkReadPicture(t, head[:at]+head[at+1:]+body) {
			t.Fatalf("ReadPicture of a head without what stands at %d: told", at)
		}
	}
	for n := range len(body) {
		if checkReadPicture(t, head+body[:n]) {
			t.Fatalf("ReadPicture with %d bytes: told", n)
		}
	}
}

// A text of each two sides with each number of bytes.
func TestReadPictureBytesBySides(t *testing.T) {
	for w := range mostAside + 2 {
		for h := range mostAside + 2 {
			for n := range mostAside*mostAside + 25 {
				good := w >= 1 && w <= mostAside && h >= 1 && h <= mostAside && n == w*h
				gotW, gotH, bytes, ok := impl.ReadPicture(plainHead(w, h) + strings.Repeat("\n", n))
				if ok != good || good && (gotW != w || gotH != h || !slices.Equal(bytes, alikeRow(n, 10))) {
					t.Fatalf("ReadPicture of %d and %d with %d bytes: %d %d %v %v", w, h, n, gotW, gotH, bytes, ok)
				}
			}
		}
	}
}
