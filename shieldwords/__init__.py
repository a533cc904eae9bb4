"""A herald's arms: drawn, told in words, judged. The calls stand in shieldwords.desk."""
