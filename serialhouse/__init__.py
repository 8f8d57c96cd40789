"""Words of formats, counted, numbered, drawn, led and kept."""
