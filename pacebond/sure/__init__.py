"""What hits surely, whatever walk comes to it."""
