"""Claims about yes and no and about differences of whole numbers, and lines that are shown of them."""
