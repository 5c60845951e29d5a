package tests

import (
	"slices"
	"strings"
	"testing"

	"loop.example/g00409/impl"
)

type runsRow struct {
	why  string
	row  []int
	runs []impl.Run
	text string
}

func runsRows() []runsRow {
	return []runsRow{
		{"no byte", nil, nil, ""},
		{"one byte", []int{7}, likes(1, 7), "1x7"},
		{"one byte that is 0", []int{0}, likes(1, 0), "1x0"},
		{"one byte of 255", []int{255}, likes(1, 255), "1x255"},
		{"two alike", []int{9, 9}, likes(2, 9), "2x9"},
		{"two unlike", []int{9, 8}, likes(1, 9, 1, 8), "1x9,1x8"},
		{"one value again", []int{9, 8, 9}, likes(1, 9, 1, 8, 1, 9), "1x9,1x8,1x9"},
		{"one value again, more of it", []int{9, 9, 8, 9, 9, 9}, likes(2, 9, 1, 8, 3, 9), "2x9,1x8,3x9"},
		{"noughts ahead", []int{0, 0, 5}, likes(2, 0, 1, 5), "2x0,1x5"},
		{"noughts behind", []int{5, 5, 0, 0, 0}, likes(2, 5, 3, 0), "2x5,3x0"},
		{"noughts between", []int{5, 0, 0, 5, 6}, likes(1, 5, 2, 0, 1, 5, 1, 6), "1x5,2x0,1x5,1x6"},
		{"noughts by turns", []int{0, 3, 0, 4, 0}, likes(1, 0, 1, 3, 1, 0, 1, 4, 1, 0), "1x0,1x3,1x0,1x4,1x0"},
		{"as a line's edge has them", []int{0, 0, 255, 7, 7, 7}, likes(2, 0, 1, 255, 3, 7), "2x0,1x255,3x7"},
		{"from the least to the greatest", []int{0, 255, 0, 255, 255}, likes(1, 0, 1, 255, 1, 0, 2, 255), "1x0,1x255,1x0,2x255"},
		{"numbers of two digits", slices.Concat(alikeRow(10, 10), alikeRow(12, 99)), likes(10, 10, 12, 99), "10x10,12x99"},
		{"numbers with noughts within", slices.Concat(alikeRow(20, 100), alikeRow(10, 200), alikeRow(50, 101)), likes(20, 100, 10, 200, 50, 101), "20x100,10x200,50x101"},
		{"a whole row", alikeRow(100, 0), likes(100, 0), "100x0"},
		{"a whole row of two halves", slices.Concat(alikeRow(50, 255), alikeRow(50, 0)), likes(50, 255, 50, 0), "50x255,50x0"},
	}
}

func TestRunsWrittenOut(t *testing.T) {
	for _, c := range runsRows() {
		l, ok := impl.RunsOf(c.row)
		wantRuns(t, c.why+": RunsOf", c.row, l, ok, c.runs)
		row, ok := impl.FromRuns(c.runs)
		wantInts(t, c.why+": FromRuns", c.runs, row, ok, c.row)
		s, ok := impl.RunsText(c.runs)
		wantText(t, c.why+": RunsText", c.runs, s, ok, c.text)
		l, ok = impl.ReadRuns(c.text)
		wantRuns(t, c.why+": ReadRuns", c.text, l, ok, c.runs)
		if !impl.GoodRuns(c.runs) {
			t.Errorf("%s: GoodRuns %v: false", c.why, c.runs)
		}
	}
}

func TestRunsOfAllSmallRows(t *testing.T) {
	for _, row := range append(rowsOver(7, 0, 255), rowsOver(6, 0, 7, 8)...) {
		if !checkRow(t, row) || !checkRuns(t, plainRuns(row)) || !checkRead(t, plainText(plainRuns(row))) {
			t.Fatalf("%v: refused", row)
		}
	}
}

func TestRunsOfSomeRows(t *testing.T) {
	r := fixed(209)
	for n := range impl.MaxRow + 1 {
		for range 8 {
			row := someRow(r, n)
			if !checkRow(t, row) || !checkRuns(t, plainRuns(row)) || !checkRead(t, plainText(plainRuns(row))) {
				t.Fatalf("%v: refused", row)
			}
		}
	}
}

// All lists of three runs at most, with numbers that do, and that just do not.
func TestRunsOfAllSmallLists(t *testing.T) {
	some := []impl.Run{}
	for _, many := range []int{0, 1, 2, -1} {
		for _, value := range []int{-1, 0, 255, 256} {
			some = append(some, impl.Run{Value: value, Many: many})
		}
	}
	told := map[bool]int{}
	for _, a := range some {
		told[checkRuns(t, []impl.Run{a})]++
		for _, b := range some {
			told[checkRuns(t, []impl.Run{a, b})]++
			for _, c := range some {
				told[checkRuns(t, []impl.Run{a, b, c})]++
			}
		}
	}
	if told[true] != 4+8+16 || told[false] < 4000 {
		t.Error("good and not:", told)
	}
}

func TestGoodRuns(t *testing.T) {
	for _, l := range edgeRuns() {
		if !impl.GoodRuns(l) || !checkRuns(t, l) {
			t.Errorf("GoodRuns %v: false", l)
		}
	}
	for _, l := range wrongRuns() {
		if impl.GoodRuns(l) || checkRuns(t, l) {
			t.Errorf("GoodRuns %v: true", l)
		}
	}
}

type wrongText struct{ why, text string }

func wrongRunTexts() []wrongText {
	all := []wrongText{
		{"a blank ahead", " 1x0"}, {"a blank behind", "1x0 "}, {"a blank before the x", "1 x0"}, {"a blank behind the x", "1x 0"}, {"a blank behind the comma", "1x0, 1x1"}, {"a blank before the comma", "1x0 ,1x1"}, {"a blank within a number", "1 0x0"},
		{"a blank for the comma", "1x0 1x1"}, {"a blank alone", " "}, {"a tab", "\t1x0"}, {"a byte 10 behind", "1x0\n"}, {"a byte 10 ahead", "\n1x0"}, {"a byte 13", "1x0\r"}, {"a byte 0", "1x0\x00"}, {"a byte 0 ahead", "\x001x0"},
		{"a sign ahead of Many", "+1x0"}, {"a sign ahead of Value", "1x+0"}, {"Many below 0", "-1x0"}, {"Value below 0", "1x-1"}, {"a sign ahead of 0", "1x-0"}, {"a sign in the second run", "1x0,+1x1"},
		{"a needless nought in Many", "01x0"}, {"a needless nought in Value", "1x07"}, {"two noughts", "1x00"}, {"two needless noughts", "001x1"}, {"a needless nought in the second run", "1x0,02x1"}, {"a needless nought at the end", "1x0,2x01"}, {"many noughts", "1x" + strings.Repeat("0", 300)}, {"many noughts ahead", strings.Repeat("0", 300) + "1x1"},
		{"an empty part", "1x0,,1x1"}, {"a comma at the beginning", ",1x0"}, {"a comma at the end", "1x0,"}, {"a comma alone", ","}, {"two commas", ",,"}, {"another mark for the comma", "1x0;1x1"}, {"a full stop for the comma", "1x0.1x1"}, {"nothing for the comma", "1x01x1"},
		{"X", "1X0"}, {"y", "1y0"}, {"a star for the x", "1*0"}, {"a sign that is not plain for the x", "1\u00d70"}, {"a letter that is not plain for the x", "1\u04450"}, {"that ahead of the x", "1\u0445x0"}, {"a letter that is not plain behind", "1x0\u00e9"}, {"a letter that is not plain alone", "\u00e9"},
		{"a digit that is not plain in Many", "\uff11x0"}, {"a digit that is not plain in Value", "1x\u0663"}, {"a digit that is not plain behind one that is", "1x1\u0663"}, {"a blank that is not plain", "1x0\u00a0"}, {"a mark that is not seen", "\ufeff1x0"},
		{"half a letter", "1x0\xc3"}, {"half a letter ahead", "\xc31x0"}, {"a byte of no letter", "1x\xff"}, {"a byte of no letter for the x", "1\xff0"}, {"a byte of 128 for a digit", "\x80x0"}, {"a byte of 176: a 0 and 128", "1x\xb0"}, {"a byte of 177: a 1 and 128", "\xb1x0"}, {"the x and 128", "1\xf80"}, {"the comma and 128", "1x0\xac1x1"}, {"a letter that is a 1 in its last byte", "\u0131x0"}, {"one that is the x in its last byte", "1\u01780"},
		{"a number too great for an int as Many", "9223372036854775808x0"}, {"the greatest int as Many", "9223372036854775807x0"}, {"a number too great for an int as Value", "1x9223372036854775808"}, {"Many that would wrap round to 1", "18446744073709551617x0"}, {"Value that would wrap round to 0", "1x18446744073709551616"}, {"Value that would wrap round to 5", "1x18446744073709551621"}, {"Many of 32 bits that would wrap round", "4294967297x0"}, {"Value of 32 bits that would wrap round", "1x4294967296"},
		{"many digits in Many", strings.Repeat("9", 3000) + "x0"}, {"many digits in Value", "1x1" + strings.Repeat("0", 3000)},
		{"Many of 0", "0x5"}, {"Many of 0 in the second run", "1x4,0x5"}, {"all 0", "0x0"}, {"Many of 0 in between", "1x4,0x5,1x4"},
		{"two with one Value", "1x5,2x5"}, {"two with one Value of 0", "2x0,1x0"}, {"two with one Value behind another one", "1x1,1x2,1x2"},
		{"Many of more than MaxRow", "101x0"}, {"a nought too many in Many", "1000x0"}, {"all Many together more than MaxRow", "100x0,1x1"}, {"half and more than half", "51x0,50x1"}, {"a run for each byte, and one more", plainText(plainRuns(unlikeRow(impl.MaxRow + 1)))}, {"very many runs", plainText(plainRuns(unlikeRow(3000)))},
		{"Value of 256", "1x256"}, {"Value of 300", "1x300"}, {"Value of 1000", "1x1000"}, {"Value of 256 in the second run", "1x0,1x256"}, {"Value of 256 in the first run", "1x256,1x0"},
		{"an x alone", "x"}, {"no Value", "1x"}, {"no Many", "x1"}, {"no x", "1"}, {"no x, two digits", "10"}, {"two x", "1xx1"}, {"three numbers", "1x1x1"}, {"an x behind", "1x1x"}, {"an x ahead", "x1x1"}, {"no x in the second run", "1x0,1"}, {"no number in the second run", "1x0,x"}, {"no Value in the first run", "1x,1x0"}, {"no Many in the second run", "1x0,x1"}, {"no x in the first run", "1,1x0"},
		{"a power", "1e1x0"}, {"parts of one", "1.0x0"}, {"a number with a stroke", "1_0x0"}, {"digits to 16", "1x0xff"}, {"a letter as Value", "1xa"}, {"a letter behind Value", "1x1a"}, {"a colon for a digit", "1x:"}, {"a slash for a digit", "1x/"}, {"the byte ahead of 0 behind a digit", "1/x1"}, {"the byte behind 9 behind a digit", "1:x1"}, {"brackets", "(1x0)"}, {"marks about it", "\"1x0\""}, {"words", "one"},
	}
	return all
}

func TestReadRunsWrongTexts(t *testing.T) {
	for _, c := range wrongRunTexts() {
		if l, ok := impl.ReadRuns(c.text); ok || len(l) > 0 {
			t.Errorf("%s: ReadRuns %q: %v %v", c.why, c.text, l, ok)
		}
		if checkRead(t, c.text) {
			t.Errorf("%s: %q is read", c.why, c.text)
		}
	}
}

// All texts of six bytes at most, of few kinds of bytes.
func TestReadRunsAllSmallTexts(t *testing.T) {
	told, all := map[bool]int{}, []string{""}
	for from := 0; len(all[from]) < 6; from++ {
		for _, b := range "012x,-" {
			all = append(all, all[from]+string(b))
		}
	}
	for _, s := range all {
		told[checkRead(t, s)]++
	}
	if told[true] < 60 || told[false] < 50000 {
		t.Error("read and not:", told)
	}
}

func TestReadRunsTextsNear(t *testing.T) {
	told := map[bool]int{}
	for _, s := range []string{"1x0", "2x0,1x255,3x7", "100x255", "10x20,30x40", "50x1,50x2"} {
		for _, near := range textsNear(s, allBytes()) {
			told[checkRead(t, near)]++
		}
	}
	if told[true] < 300 || told[false] < 10000 {
		t.Error("read and not:", told)
	}
}

type pictureRow struct {
	why   string
	w, h  int
	bytes []int
	text  string
}

func pictureRows() []pictureRow {
	return []pictureRow{
		{"one byte", 1, 1, []int{7}, "P5\n1 1\n255\n\x07"},
		{"one byte that is 0", 1, 1, []int{0}, "P5\n1 1\n255\n\x00"},
		{"one byte of 255", 1, 1, []int{255}, "P5\n1 1\n255\n\xff"},
		{"one byte that is 10", 1, 1, []int{10}, "P5\n1 1\n255\n\n"},
		{"one byte that is a blank", 1, 1, []int{32}, "P5\n1 1\n255\n "},
		{"one byte of 128", 1, 1, []int{128}, "P5\n1 1\n255\n\x80"},
		{"one byte that is a digit", 1, 1, []int{'0'}, "P5\n1 1\n255\n0"},
		{"a row", 2, 1, []int{0, 65}, "P5\n2 1\n255\n\x00A"},
		{"a column", 1, 2, []int{65, 0}, "P5\n1 2\n255\nA\x00"},
		{"wider than high", 3, 2, []int{65, 66, 67, 68, 69, 70}, "P5\n3 2\n255\nABCDEF"},
		{"higher than wide", 2, 3, []int{65, 66, 67, 68, 69, 70}, "P5\n2 3\n255\nABCDEF"},
		{"what makes a letter that is not plain", 2, 1, []int{0xc3, 0xa9}, "P5\n2 1\n255\n\xc3\xa9"},
		{"the same the other way round", 2, 1, []int{0xa9, 0xc3}, "P5\n2 1\n255\n\xa9\xc3"},
		{"bytes 10 alone", 2, 2, []int{10, 10, 10, 10}, "P5\n2 2\n255\n\n\n\n\n"},
		{"blanks alone", 2, 2, []int{32, 32, 32, 32}, "P5\n2 2\n255\n    "},
		{"the end of a head", 5, 1, []int{10, 50, 53, 53, 10}, "P5\n5 1\n255\n\n255\n"},
		{"a head", 4, 3, []int{80, 53, 10, 49, 32, 49, 10, 50, 53, 53, 10, 0}, "P5\n4 3\n255\nP5\n1 1\n255\n\x00"},
		{"digits", 1, 3, []int{49, 50, 51}, "P5\n1 3\n255\n123"},
		{"as wide as may be", 10, 1, []int{48, 49, 50, 51, 52, 53, 54, 55, 56, 57}, "P5\n10 1\n255\n0123456789"},
		{"as high as may be", 1, 10, []int{57, 56, 55, 54, 53, 52, 51, 50, 49, 48}, "P5\n1 10\n255\n9876543210"},
		{"as wide and as high as may be", 10, 10, alikeRow(100, 46), "P5\n10 10\n255\n" + strings.Repeat(".", 100)},
	}
}

func TestPictureWrittenOut(t *testing.T) {
	for _, c := range pictureRows() {
		s, ok := impl.PictureBytes(c.w, c.h, c.bytes)
		wantText(t, c.why+": PictureBytes", c.bytes, s, ok, c.text)
		w, h, bytes, ok := impl.ReadPicture(c.text)
		wantInts(t, c.why+": ReadPicture", c.text, bytes, ok, c.bytes)
		wantInts(t, c.why+": ReadPicture's sides", c.text, []int{w, h}, ok, []int{c.w, c.h})
	}
}

func TestPictureOfAllSides(t *testing.T) {
	r := fixed(210)
	for w := 1; w <= mostAside; w++ {
		for h := 1; h <= mostAside; h++ {
			for _, bytes := range [][]int{someRow(r, w*h), unlikeRow(w * h), alikeRow(w*h, 10), alikeRow(w*h, 32), alikeRow(w*h, 255), alikeRow(w*h, 0)} {
				if !checkPicture(t, w, h, bytes) || !checkReadPicture(t, plainPicture(w, h, bytes)) {
					t.Fatalf("%d %d %v: refused", w, h, bytes)
				}
			}
		}
	}
}

// Each value at each place of a picture is one byte of the text.
func TestPictureWithEachByte(t *testing.T) {
	for b := range 256 {
		for at := range 6 {
			bytes := alikeRow(6, 77)
			bytes[at] = b
			s, ok := impl.PictureBytes(3, 2, bytes)
			if head := len("P5\n3 2\n255\n"); !ok || len(s) != head+6 || int(s[head+at]) != b {
				t.Fatalf("PictureBytes with %d at %d: %q %v", b, at, s, ok)
			}
			_, _, back, ok := impl.ReadPicture("P5\n3 2\n255\n" + s[len(s)-6:])
			wantInts(t, "ReadPicture", s, back, ok, bytes)
		}
	}
}

type joinRow struct {
	why        string
	a, b, want []impl.Run
}

func joinRows() []joinRow {
	return []joinRow{
		{"both empty", nil, nil, nil},
		{"the first one empty", nil, likes(2, 7), likes(2, 7)},
		{"the second one empty", likes(2, 7, 1, 0), nil, likes(2, 7, 1, 0)},
		{"one Value", likes(2, 7), likes(3, 7), likes(5, 7)},
		{"one Value of 0", likes(2, 0), likes(3, 0), likes(5, 0)},
		{"one Value of 255", likes(1, 255), likes(1, 255), likes(2, 255)},
		{"two Values", likes(2, 7), likes(3, 8), likes(2, 7, 3, 8)},
		{"one Value where they meet", likes(2, 0, 1, 255, 3, 7), likes(2, 7), likes(2, 0, 1, 255, 5, 7)},
		{"one Value where they meet, more behind", likes(1, 9, 2, 7), likes(1, 7, 4, 9), likes(1, 9, 3, 7, 4, 9)},
		{"two Values where they meet", likes(1, 9, 2, 7), likes(1, 9, 4, 7), likes(1, 9, 2, 7, 1, 9, 4, 7)},
		{"one Value at both ends alone", likes(1, 7, 1, 8), likes(1, 9, 1, 7), likes(1, 7, 1, 8, 1, 9, 1, 7)},
		{"one Value in between alone", likes(1, 1, 1, 2), likes(1, 3, 1, 2), likes(1, 1, 1, 2, 1, 3, 1, 2)},
		{"the first ones have one Value", likes(2, 7, 1, 8), likes(3, 7, 1, 9), likes(2, 7, 1, 8, 3, 7, 1, 9)},
		{"the last ones have one Value", likes(2, 7, 1, 8), likes(3, 9, 1, 8), likes(2, 7, 1, 8, 3, 9, 1, 8)},
		{"a row and itself", likes(1, 5, 2, 0, 1, 5), likes(1, 5, 2, 0, 1, 5), likes(1, 5, 2, 0, 2, 5, 2, 0, 1, 5)},
		{"a row and itself, two Values where they meet", likes(1, 5, 2, 0), likes(1, 5, 2, 0), likes(1, 5, 2, 0, 1, 5, 2, 0)},
		{"one Value where they meet, as the ones beside have it", likes(1, 7, 1, 0), likes(1, 0, 1, 7), likes(1, 7, 2, 0, 1, 7)},
		{"a whole row of two halves alike", likes(50, 0), likes(50, 0), likes(100, 0)},
		{"a whole row of two halves", likes(50, 0), likes(50, 1), likes(50, 0, 50, 1)},
		{"a whole row, and none", likes(100, 255), nil, likes(100, 255)},
		{"none, and a whole row", nil, likes(100, 255), likes(100, 255)},
		{"all but one, and one", likes(99, 3), likes(1, 3), likes(100, 3)},
	}
}

func TestJoinWrittenOut(t *testing.T) {
	for _, c := range joinRows() {
		l, ok := impl.JoinRuns(c.a, c.b)
		wantRuns(t, c.why+": JoinRuns", []any{c.a, c.b}, l, ok, c.want)
	}
}

func TestJoinAllSmallRows(t *testing.T) {
	all := rowsOver(4, 0, 7, 255)
	for _, a := range all {
		for _, b := range all {
			if !checkJoin(t, plainRuns(a), plainRuns(b)) {
				t.Fatalf("JoinRuns of %v and %v: refused", a, b)
			}
		}
	}
}

func TestJoinSomeRows(t *testing.T) {
	r := fixed(211)
	told := map[bool]int{}
	for range 3000 {
		told[checkJoin(t, plainRuns(someRow(r, r.IntN(80))), plainRuns(someRow(r, r.IntN(80))))]++
	}
	if told[true] < 1000 || told[false] < 300 {
		t.Error("told and not:", told)
	}
}
