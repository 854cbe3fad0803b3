"""A sheet of cells: formulas over other cells, worked out, copied, told as text; rings told."""
