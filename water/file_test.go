package water_test

import (
	"reflect"
	"slices"
	"strconv"
	"strings"
	"testing"

	"windsock/api"
	"windsock/water"
)

const exampleFile = "tide 0 50 60 =69\neast 0 -20 30 =15\nnorth 0 -10 10 =38\nwave 0 5 20 =30\nswell 0 0 10 =40\nend 0 =91\n"

// lines returns a text of lines with right checks.
func lines(words ...string) string {
	text := ""
	for _, w := range words {
		sum := 0
		for _, b := range []byte(w) {
			sum += int(b)
		}
		check := strconv.Itoa(sum % 100)
		if len(check) == 1 {
			check = "0" + check
		}
		text += w + " =" + check + "\n"
	}
	return text
}

// exampleWords returns the lines of the weather of the sea s, with a reading of the tide.
func exampleWords() []string {
	return []string{"tide 0 50 60", "read 60 100 110 1", "east 0 -20 30", "north 0 -10 10", "wave 0 5 20", "swell 0 0 10", "end 1"}
}

// TestPrint checks P1.7 (Print).
func TestPrint(t *testing.T) {
	w := exampleSea().Weather
	if s, e := water.Print(w); e != api.OK || s != exampleFile {
		t.Errorf("%q %v", s, e)
	}
	w.Tide.Readings = exampleGauge().Readings[:1]
	if s, e := water.Print(w); e != api.OK || s != lines(exampleWords()...) || !strings.Contains(s, "read 60 100 110 1 =82\n") {
		t.Errorf("%q %v", s, e)
	}
	w.Tide.Readings = nil
	w.Swell.Readings = []api.Reading{{Minute: 900, Value: span(-3, -2), Source: 7}, {Minute: 0, Value: span(-api.WaterValue, api.WaterValue)}}
	want := lines("tide 0 50 60", "east 0 -20 30", "north 0 -10 10", "wave 0 5 20", "swell 0 0 10", "read 900 -3 -2 7", "read 0 -100000 100000 0", "end 2")
	if s, e := water.Print(w); e != api.OK || s != want {
		t.Errorf("%q %v", s, e)
	}
	// gauges whose readings clash are printed as well
	w.Wave = clashing(w.Wave)
	if _, e := water.Print(w); e != api.OK {
		t.Error(e)
	}
	for i, s := range badSeas() {
		if water.Check(api.Sea{Chart: exampleSea().Chart, Weather: s.Weather}) == api.OK {
			continue
		}
		if text, e := water.Print(s.Weather); e != api.ErrArg || text != "" {
			t.Error(i, text, e)
		}
	}
}

// TestReadExample checks P1.7 (Read).
func TestReadExample(t *testing.T) {
	w, e := water.Read(exampleFile)
	if want := exampleSea().Weather; e != api.OK || !reflect.DeepEqual(w, want) {
		t.Error(w, e)
	}
	w, e = water.Read(lines(exampleWords()...))
	want := exampleSea().Weather
	want.Tide.Readings = exampleGauge().Readings[:1]
	if e != api.OK || !reflect.DeepEqual(w, want) {
		t.Error(w, e)
	}
}

// TestReadNone checks P1.7 (Read): texts that are no weather files.
func TestReadNone(t *testing.T) {
	swap := func(old, new string) string {
		return lines(strings.Split(strings.Replace(strings.Join(exampleWords(), "|"), old, new, 1), "|")...)
	}
	good := lines(exampleWords()...)
	texts := []string{
		"", "\n", " ", "end 0 =91\n", good[:len(good)-1], good + "\n", good + " ", "\n" + good, " " + good, good + good, good + "end 1 =92\n",
		strings.Replace(good, "=69", "=70", 1),
		strings.Replace(good, "=69", "69", 1),
		strings.Replace(good, " =69", "=69", 1),
		strings.Replace(good, " =69", "  =69", 1),
		strings.Replace(good, "=69", "=69 ", 1),
		strings.Replace(good, "=69", "=169", 1),
		strings.Replace(good, "=69", "= 69", 1),
		strings.Replace(good, "=69", "", 1),
		strings.Replace(good, "=69\n", "=69\r\n", 1),
		strings.Replace(good, "=69\n", "=69\n\n", 1),
		strings.Replace(good, "=69\n", "=69", 1),
		strings.Replace(good, "end 1 =92", "end 1 =9", 1),
		strings.Replace(good, "end 1 =92", "end 1 =192", 1),
		swap("|end 1", ""),
		swap("end 1", "end 0"), swap("end 1", "end 2"), swap("end 1", "end"), swap("end 1", "end 1 1"), swap("end 1", "end 01"), swap("end 1", "ends 1"), swap("end 1", "end -1"),
		swap("|read 60 100 110 1", ""), swap("read 60 100 110 1", "read 60 100 110 1|read 60 100 110 1"),
		swap("tide 0 50 60|read 60 100 110 1", "read 60 100 110 1|tide 0 50 60"),
		swap("read 60 100 110 1", "read 60 100 110"), swap("read 60 100 110 1", "read 60 100 110 1 1"), swap("read 60", "reads 60"), swap("read 60", "Read 60"), swap("read 60", "read"),
		swap("tide", "east"), swap("tide", "Tide"), swap("tide ", "tide  "), swap("tide ", "tide\t"), swap("tide 0 50 60", "tide 0 50 60 "), swap("tide 0", " tide 0"),
		swap("tide 0 50 60|", ""), swap("swell 0 0 10|", ""), swap("east 0 -20 30|north 0 -10 10", "north 0 -10 10|east 0 -20 30"),
		swap("tide 0 50 60", "tide 0 50 60|tide 0 50 60"),
		swap("50", "050"), swap("50", "+50"), swap("50", "50.0"), swap("50", "5_0"), swap("50", "0x32"), swap("50", "5 0"), swap("50", ""), swap("50", "five"), swap("50", "٥٠"), swap("50", "50é"), swap("50", "5\xff0"),
		swap("-20", "--20"), swap("-20", "-020"), swap("-20", "- 20"), swap("-20", "-"), swap("-20", "20-"), swap("0 -20", "-0 -20"), swap("0 -20", "00 -20"),
		swap("60", "12345678901"), swap("-20", "-12345678901"), swap("60", strings.Repeat("9", 400)),
		strings.Repeat("a", api.WaterText), strings.Repeat("\n", api.WaterText), strings.Repeat(lines("read 0 0 0 0"), 1000),
	}
	for i, text := range texts {
		if w, e := water.Read(text); e != api.ErrText || !reflect.DeepEqual(w, api.Weather{}) {
			t.Errorf("%d %q %v", i, text[:min(len(text), 200)], e)
		}
	}
	for _, text := range []string{strings.Repeat("a", api.WaterText+1), exampleFile + strings.Repeat("\n", api.WaterText)} {
		if w, e := water.Read(text); e != api.ErrLong || !reflect.DeepEqual(w, api.Weather{}) {
			t.Error(e)
		}
	}
}

// TestReadNotDefined checks P1.7 (Read): files whose numbers are not as defined.
func TestReadNotDefined(t *testing.T) {
	many := slices.Replace(exampleWords(), 1, 2, slices.Repeat([]string{"read 60 100 110 1"}, api.WaterRead+1)...)
	many[len(many)-1] = "end 31"
	texts := []string{lines(many...)}
	for _, change := range [][2]string{
		{"60 100", "1441 100"}, {"60 100", "-1 100"}, {"100 110", "110 109"}, {"110", "100001"}, {"110 1", "110 8"}, {"110 1", "110 -1"},
		{"tide 0", "tide 1001"}, {"tide 0", "tide -1"}, {"tide 0 50 60", "tide 0 60 50"}, {"50 60", "50 2001"}, {"50 60", "-2001 60"},
		{"-20 30", "-301 30"}, {"-20 30", "-20 301"}, {"-10 10", "-301 10"}, {"-10 10", "-10 301"},
		{"wave 0 5", "wave 0 -5"}, {"5 20", "5 2001"}, {"swell 0 0", "swell 0 -1"}, {"swell 0 0 10", "swell 0 0 2001"},
		{"50 60", "50 9999999999"}, {"50 60", "-9999999999 60"}, {"50 60", "1000000000 60"},
	} {
		texts = append(texts, lines(strings.Split(strings.Replace(strings.Join(exampleWords(), "|"), change[0], change[1], 1), "|")...))
	}
	for i, text := range texts {
		if w, e := water.Read(text); e != api.ErrArg || !reflect.DeepEqual(w, api.Weather{}) {
			t.Errorf("%d %q %v", i, text, e)
		}
	}
}

// TestCheckOfTwoDigits checks P1.7: checks that begin with 0.
func TestCheckOfTwoDigits(t *testing.T) {
	// the bytes of some of these lines come to 0 to 9, modulo 100
	small := 0
	for most := range 200 {
		w := exampleSea().Weather
		w.Swell.Most = most
		s, e := water.Print(w)
		if e != api.OK || s != lines("tide 0 50 60", "east 0 -20 30", "north 0 -10 10", "wave 0 5 20", "swell 0 0 "+strconv.Itoa(most), "end 0") {
			t.Errorf("%q %v", s, e)
		}
		if x, e := water.Read(s); e != api.OK || x.Swell.Most != most {
			t.Errorf("%q %v", s, e)
		}
		if strings.Contains(s[strings.Index(s, "swell"):], " =0") {
			small++
			short := strings.Replace(s, " =0", " =", 1)
			if _, e := water.Read(short); e != api.ErrText {
				t.Errorf("%q %v", short, e)
			}
		}
	}
	if small == 0 {
		t.Error("no such line")
	}
}

// TestFilesThereAndBack checks P1.7: what was written is read, and the other way round.
func TestFilesThereAndBack(t *testing.T) {
	r := newRandom()
	for i := range 300 {
		var w api.Weather
		bounds := []api.Span{span(-api.WaterTide, api.WaterTide), span(-api.WaterWind, api.WaterWind), span(-api.WaterWind, api.WaterWind), span(0, api.WaterWave), span(0, api.WaterWave)}
		for k, g := range gaugesOf(&w) {
			always := part(r, bounds[k], 5000)
			*g = api.Gauge{Rate: r.IntN(api.WaterRate + 1), Least: always.Low, Most: always.High}
			g.Readings = randomReadings(r, api.WaterRead, span(-api.WaterValue, api.WaterValue), 2*api.WaterValue)
		}
		text, e := water.Print(w)
		if e != api.OK {
			t.Fatal(i, e)
		}
		x, e := water.Read(text)
		if e != api.OK || !reflect.DeepEqual(x, w) {
			t.Fatal(i, e, text)
		}
		again, e := water.Print(x)
		if e != api.OK || again != text {
			t.Fatal(i, e)
		}
		spoilt := []byte(text)
		at := r.IntN(len(spoilt))
		spoilt[at] = byte(r.IntN(256))
		x, e = water.Read(string(spoilt))
		if e != api.OK && e != api.ErrText && e != api.ErrArg {
			t.Fatal(i, e)
		}
		if e == api.OK {
			if again, _ := water.Print(x); again != string(spoilt) {
				t.Fatalf("%d %q", i, spoilt)
			}
		}
	}
}
