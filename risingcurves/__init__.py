"""Calibration: rising curves of least squares, told exactly in fractions."""
