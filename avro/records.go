package avro

import "iter"

// Records tells the records of a file (P19).
func Records(text string, r *Schema) func(yield func(Datum, error) bool) {
	return func(yield func(Datum, error) bool) {
		l, headerEnd, err := readLayout(text)
		if err == nil && r != nil && !Match(l.schema, r) {
			err = ErrMatch
		}
		if err != nil {
			yield(Datum{}, err)
			return
		}
		told := 0
		for d, err := range l.records(text, headerEnd, r) {
			if err != nil {
				yield(Datum{}, &Fault{told, err})
				return
			}
			if !yield(d, nil) {
				return
			}
			told++
		}
	}
}

// records tells the records of a text's blocks from a place on, as r has them; at an error that, as the last.
func (l layout) records(text string, from int, r *Schema) iter.Seq2[Datum, error] {
	return func(yield func(Datum, error) bool) {
		for block, err := range l.blocks(text, from, len(text)) {
			if err != nil {
				yield(Datum{}, err)
				return
			}
			for _, d := range block.records {
				d, err := r.as(l.schema, d)
				if !yield(d, err) || err != nil {
					return
				}
			}
		}
	}
}

// as tells a datum of a writer's schema as this one has it, or as it is, if there is none.
func (s *Schema) as(w *Schema, d Datum) (Datum, error) {
	if s == nil {
		return d, nil
	}
	return s.resolve(w, d)
}

// ReadAll tells the records of a file in a list (P19).
func ReadAll(text string, r *Schema) ([]Datum, error) {
	var list []Datum
	for d, err := range Records(text, r) {
		if err != nil {
			return list, err
		}
		list = append(list, d)
	}
	return list, nil
}

// ReadSplit tells the records of a part of a file (P20).
func ReadSplit(text string, from, to int) ([]Datum, error) {
	l, headerEnd, err := readLayout(text)
	if err != nil {
		return nil, err
	}
	var list []Datum
	for block, err := range l.blocks(text, l.splitBegin(text, headerEnd, from), to) {
		if err != nil {
			return nil, &Fault{len(list), err}
		}
		list = append(list, block.records...)
	}
	return list, nil
}

// Recover tells the records of what is whole in a file (P21).
func Recover(text string) ([]Datum, int, error) {
	l, at, err := readLayout(text)
	if err != nil {
		return nil, 0, err
	}
	var list []Datum
	leftOut := 0
	for at < len(text) {
		for block, err := range l.blocks(text, at, len(text)) {
			if err != nil {
				leftOut++
				at = l.behindMarker(text, at)
				break
			}
			list = append(list, block.records...)
			at = block.end
		}
	}
	return list, leftOut, nil
}
