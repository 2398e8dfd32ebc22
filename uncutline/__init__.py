"""A line that's never cut: one end of it, asked through uncutline.desk."""
