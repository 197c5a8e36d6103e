package load_test

import (
	"reflect"
	"slices"
	"strconv"
	"strings"
	"testing"

	"windsock/api"
	"windsock/load"
)

const exampleSheet = "trip 150 160 2\nleg keep 0 30 40 0 5 2\nitem 0 70 90\nitem 1 100 140\nleg keep 0 60 80 0 5 1\nitem 0 70 90\nend 29\n"

// checked returns a text of lines with the check of their numbers.
func checked(lines ...string) string {
	sum := 0
	for _, w := range strings.Fields(strings.Join(lines, " ")) {
		x, _ := strconv.Atoi(w)
		sum += x
	}
	check := strconv.Itoa(sum % 97)
	if len(check) == 1 {
		check = "0" + check
	}
	return strings.Join(lines, "\n") + "\nend " + check + "\n"
}

func exampleLines() []string {
	lines := strings.Split(exampleSheet, "\n")
	return lines[:len(lines)-2]
}

// changed returns the example's sheet with something else in its lines, and a right check.
func changed(old, new string) string {
	return checked(strings.Split(strings.Replace(strings.Join(exampleLines(), "\n"), old, new, 1), "\n")...)
}

// TestPrint checks P2.6 (Print).
func TestPrint(t *testing.T) {
	if s, e := load.Print(span(150, 160), exampleLegs()); e != api.OK || s != exampleSheet {
		t.Errorf("%q %v", s, e)
	}
	legs := exampleLegs()
	legs[0].Pump, legs[0].Fuel, legs[1].Items = true, api.LoadKilos, nil
	want := checked("trip 0 20000 2", "leg pump 20000 30 40 0 5 2", "item 0 70 90", "item 1 100 140", "leg keep 0 60 80 0 5 0")
	if s, e := load.Print(span(0, api.LoadKilos), legs); e != api.OK || s != want {
		t.Errorf("%q %v", s, e)
	}
	// a station that the plane of the example has not
	legs[0].Items[1].Station = api.LoadStations - 1
	if s, e := load.Print(span(0, 0), legs); e != api.OK || !strings.Contains(s, "\nitem 7 100 140\n") {
		t.Errorf("%q %v", s, e)
	}
	fuels, trips := badTrips()
	for i, fuel := range fuels {
		if s, e := load.Print(fuel, trips[i]); e != api.ErrArg || s != "" {
			t.Errorf("%d %q %v", i, s, e)
		}
	}
	for _, fuel := range []api.Span{span(1, 2), span(2, 1)} {
		if s, e := load.Print(fuel, make([]api.LoadLeg, api.LoadLegs+1)); e != api.ErrLong || s != "" {
			t.Errorf("%q %v", s, e)
		}
	}
}

// TestPrintChecks checks P2.6: the check has two digits, whatever it is.
func TestPrintChecks(t *testing.T) {
	for fuel := range 200 {
		s, e := load.Print(exactly(fuel), []api.LoadLeg{{Pump: true}})
		number := strconv.Itoa(fuel)
		if want := checked("trip "+number+" "+number+" 1", "leg pump 0 0 0 0 0 0"); e != api.OK || s != want {
			t.Errorf("%q %v", s, e)
		}
		if f, legs, e := load.Read(s); e != api.OK || f != exactly(fuel) || len(legs) != 1 || !legs[0].Pump || len(legs[0].Items) != 0 {
			t.Error(fuel, f, legs, e)
		}
		check := (2*fuel + 1) % 97
		for _, other := range []string{strconv.Itoa(check + 97), strconv.Itoa(check), "0" + strconv.Itoa(check), "00" + strconv.Itoa(check)} {
			text := s[:strings.LastIndex(s, " ")+1] + other + "\n"
			if text == s {
				continue
			}
			if _, _, e := load.Read(text); e != api.ErrText {
				t.Errorf("%q %v", text, e)
			}
		}
	}
}

// TestRead checks P2.6 (Read).
func TestRead(t *testing.T) {
	if f, legs, e := load.Read(exampleSheet); e != api.OK || f != span(150, 160) || !reflect.DeepEqual(legs, exampleLegs()) {
		t.Error(f, legs, e)
	}
	lines := []string{"trip 3 4 1", "leg pump 5 6 7 8 9 1", "item 7 10 11"}
	want := []api.LoadLeg{{Items: []api.LoadItem{{Station: 7, Weight: span(10, 11)}}, Pump: true, Fuel: 5, Burn: span(6, 7), Leak: span(8, 9)}}
	if f, legs, e := load.Read(checked(lines...)); e != api.OK || f != span(3, 4) || !reflect.DeepEqual(legs, want) {
		t.Error(f, legs, e)
	}
}

// TestReadNone checks P2.6 (Read): texts that do not have the form of a sheet.
func TestReadNone(t *testing.T) {
	swap := func(old, new string) string { return strings.Replace(exampleSheet, old, new, 1) }
	texts := []string{
		"", "\n", " ", "end 00\n", "trip", "trip ", "trip 1 2", "trip 1 2 1\n", "trip 1 2 1\nleg pump 0 0 0 0 0 0\n", "leg pump 0 0 0 0 0 0\nend 00\n",
		exampleSheet[:len(exampleSheet)-1], exampleSheet + "\n", exampleSheet + " ", "\n" + exampleSheet, " " + exampleSheet, exampleSheet + exampleSheet, exampleSheet + "end 29\n", exampleSheet + "end 00\n",
		swap("29", "30"), swap("29", "28"), swap("29", "126"), swap("29", "2"), swap("29", "9"), swap("29", "029"), swap("29", "29 "), swap("29", " 29"), swap("29", ""), swap("29", "+29"),
		swap("end 29\n", ""), swap("end", "ends"), swap("end", "End"), swap("end 29", "end\t29"), swap("end 29", "29"), swap("end ", "end"),
		swap("\n", "\r\n"), swap("\n", "\n\n"), swap("\n", " "), swap("\n", ""), swap(" ", "  "), swap(" ", "\t"), swap(" ", "\n"), swap(" ", ""), swap("2\n", "2 \n"), swap("\nleg", "\n leg"),
		changed("trip", "Trip"), changed("trip", "trips"), changed("trip ", ""), changed("trip 150 160 2\n", ""), changed("trip 150 160 2", "trip 150 160 2\ntrip 150 160 2"),
		changed("trip 150 160 2", "trip 150 160"), changed("trip 150 160 2", "trip 150 160 2 0"), changed("160 2", "160 1"), changed("160 2", "160 3"), changed("160 2", "160 0"), changed("160 2", "160 9999999999"),
		changed("leg", "legs"), changed("leg", "Leg"), changed("keep", "full"), changed("keep", "Keep"), changed("keep", "keeps"), changed("keep", "kee"), changed("keep ", ""), changed("keep", "keep pump"), changed("keep", ""), changed("keep", "0"), changed("leg keep", "keep leg"),
		changed("leg keep 0", "leg keep"), changed("leg keep 0", "leg keep 0 0"), changed("5 2", "5 1"), changed("5 2", "5 3"), changed("5 1", "5 0"), changed("5 1", "5 2"), changed("5 1", "5 9999999999"),
		changed("item 0 70 90\n", ""), changed("item", "items"), changed("item", "Item"), changed("item 0 70 90", "item 0 70"), changed("item 0 70 90", "item 0 70 90 0"), changed("item 0 70 90", "item 0 70 90\nitem 0 70 90"), changed("item 0 70 90", "leg 0 70 90"),
		changed("leg keep 0 60 80 0 5 1\nitem 0 70 90", "leg keep 0 60 80 0 5 0\nitem 0 70 90"),
		changed("150", "0150"), changed("150", "+150"), changed("150", "-150"), changed("150", "150.0"), changed("150", "1_50"), changed("150", "0x96"), changed("150", "1e2"), changed("150", ""), changed("150", "x"), changed("150", "١٥٠"), changed("150", "15\xff0"), changed("150", "12345678901"), changed("150", strings.Repeat("9", 400)), changed("150", "99999999999999999999"),
		changed("item 0", "item 00"), changed("item 0", "item -0"), changed("item 0", "item +0"), changed("keep 0", "keep 00"), changed("keep 0", "keep -1"), changed("keep 0", "keep 00000000000"), changed("70", "070"), changed("140", "0140"),
		strings.Repeat("a", api.LoadText), strings.Repeat("\n", api.LoadText), strings.Repeat("trip 1 2 1\n", 1000), "trip 0 0 9999999999\n" + strings.Repeat("leg pump 0 0 0 0 0 0\n", 900), "trip 0 0 1\nleg pump 0 0 0 0 0 9999999999\n" + strings.Repeat("item 0 0 0\n", 1700),
	}
	for i, text := range texts {
		if f, legs, e := load.Read(text); e != api.ErrText || f != (api.Span{}) || legs != nil {
			t.Errorf("%d %q %v", i, text[:min(len(text), 200)], e)
		}
	}
	for i, text := range []string{strings.Repeat("a", api.LoadText+1), exampleSheet + strings.Repeat("\n", api.LoadText)} {
		if f, legs, e := load.Read(text); e != api.ErrLong || f != (api.Span{}) || legs != nil {
			t.Error(i, e)
		}
	}
}

// TestReadNotDefined checks P2.6 (Read): sheets of trips that are not as defined.
func TestReadNotDefined(t *testing.T) {
	leg := "leg pump 0 0 0 0 0 0"
	items := slices.Repeat([]string{"item 0 0 0"}, api.LoadItems+1)
	texts := []string{
		checked("trip 1 2 0"), checked(append([]string{"trip 1 2 7"}, slices.Repeat([]string{leg}, 7)...)...), checked(append([]string{"trip 1 2 900"}, slices.Repeat([]string{leg}, 900)...)...),
		checked(append([]string{"trip 1 2 1", "leg pump 0 0 0 0 0 13"}, items...)...),
		changed("150", "161"), changed("160", "149"), changed("160", "20001"), changed("160", "9999999999"), changed("150", "9999999999"), changed("150 160", "1000000000 1000000000"),
		changed("keep 0", "keep 20001"), changed("30 40", "41 40"), changed("30 40", "30 20001"), changed("0 5 2", "6 5 2"), changed("0 5 1", "0 20001 1"),
		changed("item 0", "item 8"), changed("item 1", "item 9999999999"), changed("70 90", "91 90"), changed("100 140", "100 20001"),
	}
	for i, text := range texts {
		if f, legs, e := load.Read(text); e != api.ErrArg || f != (api.Span{}) || legs != nil {
			t.Errorf("%d %q %v", i, text[:min(len(text), 200)], e)
		}
	}
	for i, text := range []string{
		checked(append([]string{"trip 1 2 6"}, slices.Repeat([]string{leg}, 6)...)...),
		checked(append([]string{"trip 1 2 1", "leg pump 0 0 0 0 0 12"}, items[1:]...)...),
		changed("150 160", "20000 20000"), changed("keep 0", "keep 20000"), changed("item 0", "item 7"), changed("0 5 1", "5 5 1"),
	} {
		if _, _, e := load.Read(text); e != api.OK {
			t.Errorf("%d %q %v", i, text, e)
		}
	}
}

// TestSheetsThereAndBack checks P2.6: what was written is read, and the other way round.
func TestSheetsThereAndBack(t *testing.T) {
	r := newRandom()
	for i := range 500 {
		fuel, legs := part(r, span(0, api.LoadKilos), api.LoadKilos), anyLegs(r, api.LoadStations)
		text, e := load.Print(fuel, legs)
		if e != api.OK {
			t.Fatal(i, e)
		}
		f, l, e := load.Read(text)
		if e != api.OK || f != fuel || !reflect.DeepEqual(l, legs) {
			t.Fatal(i, e, text)
		}
		if again, e := load.Print(f, l); e != api.OK || again != text {
			t.Fatal(i, e, text)
		}
		spoilt := []byte(text)
		spoilt[r.IntN(len(spoilt))] = byte(r.IntN(256))
		if f, l, e := load.Read(string(spoilt)); e == api.OK {
			if again, _ := load.Print(f, l); again != string(spoilt) {
				t.Fatalf("%d %q", i, spoilt)
			}
		}
	}
}

// TestChangedDigits checks P2.6: each digit that was changed is noticed.
func TestChangedDigits(t *testing.T) {
	r := newRandom()
	texts := []string{exampleSheet}
	for range 8 {
		text, _ := load.Print(part(r, span(0, 300), 300), anyLegs(r, api.LoadStations))
		texts = append(texts, text)
	}
	for _, text := range texts {
		for at, c := range []byte(text) {
			for digit := byte('0'); digit <= '9' && c >= '0' && c <= '9'; digit++ {
				other := []byte(text)
				other[at] = digit
				if _, _, e := load.Read(string(other)); digit != c && e != api.ErrText {
					t.Fatalf("%d %q %v", at, other, e)
				}
			}
		}
	}
}
