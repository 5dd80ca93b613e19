"""A fence of boards: posters that fit on it, and strokes of a brush that paint it."""
