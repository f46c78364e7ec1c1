package avro

import "iter"

// Records tells the records of a file (P19).
func Records(text string, r *Schema) func(yield func(Datum, error) bool) {
	return func(yield func(Datum, error) bool) {
		l, size, err := readLayout(text)
		if err == nil && r != nil && !Match(l.schema, r) {
			err = ErrMatch
		}
		if err != nil {
			yield(Datum{}, err)
			return
		}
		told := 0
		for d, err := range l.records(text[size:], r) {
			if err != nil {
				yield(Datum{}, &Fault{told, err})
				return
			}
			if !yield(d, nil) {
				return
			}
			told++
		}
	}
}

// records tells the records of blocks, as r has them; at an error that, as the last.
func (l layout) records(blocks string, r *Schema) iter.Seq2[Datum, error] {
	return func(yield func(Datum, error) bool) {
		for rest := blocks; rest != ""; {
			list, size, err := l.readBlock(rest)
			if err != nil {
				yield(Datum{}, err)
				return
			}
			for _, d := range list {
				d, err := r.as(l.schema, d)
				if !yield(d, err) || err != nil {
					return
				}
			}
			rest = rest[size:]
		}
	}
}

// as tells a datum of a writer's schema as this one has it, or as it is, if there is none.
func (s *Schema) as(w *Schema, d Datum) (Datum, error) {
	if s == nil {
		return d, nil
	}
	return s.resolve(w, d)
}

// ReadAll tells the records of a file in a list (P19).
func ReadAll(text string, r *Schema) ([]Datum, error) {
	var list []Datum
	for d, err := range Records(text, r) {
		if err != nil {
			return list, err
		}
		list = append(list, d)
	}
	return list, nil
}

// ReadSplit tells the records of a part of a file (P20).
func ReadSplit(text string, from, to int) ([]Datum, error) { return nil, nil }

// Recover tells the records of what is whole in a file (P21).
func Recover(text string) ([]Datum, int, error) { return nil, 0, nil }
